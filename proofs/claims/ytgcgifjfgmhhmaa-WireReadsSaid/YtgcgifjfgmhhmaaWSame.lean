/- The contracts of the reference's Same for equal values, and of its Encode. -/
import Derived.Test.YtgcgifjfgmhhmaaWVa
namespace Go.Proofs.Ytgcgifjfgmhhmaa
open Go.RowKit

theorem two_a (w : World) (v0 v1 v2 v3 v4 : Value) (o : Obj) : B5 ((w.alloc (.cells #[v0, v1, v2, v3, v4] 28)).alloc o) w.heap.size v0 v1 v2 v3 v4 :=
  (Below.heap_alloc _ _ _ (by simp)).trans (World.alloc_heap_new w _)
theorem two_b (w : World) (v0 v1 v2 v3 v4 : Value) (o : Obj) : B5 ((w.alloc o).alloc (.cells #[v0, v1, v2, v3, v4] 28)) (w.heap.size + 1) v0 v1 v2 v3 v4 := by
  have := World.alloc_heap_new (w.alloc o) (.cells #[v0, v1, v2, v3, v4] 28)
  rw [World.size_alloc] at this
  exact this
theorem B5.new {w w' : World} {b : Nat} {v0 v1 v2 v3 v4 : Value} (h : B5 w b v0 v1 v2 v3 v4) (hb : Below w.heap.size w w') : B5 w' b v0 v1 v2 v3 v4 := h.kp (t := fun _ => False) (Kp.new hb) (fun e => e)
set_option maxHeartbeats 1600000 in
theorem same_true (y z : Y) (ok ok' : Nat → Prop) (w : World) (h : y.x = z.x) (hy : y.In w ok) (hz : z.In w ok') (hb : y.x.b.length ≤ 1000) (hl : y.x.l.length ≤ 1000) :
    Calls Try.prog 21 #[y.agg, z.agg] w fun e w' => e = .returned (.bool true) ∧ Below w.heap.size w w' := by
  obtain ⟨⟨k, u, n, b, l⟩, sb, sl⟩ := y
  obtain ⟨x, sb', sl'⟩ := z
  dsimp only at h
  subst h
  obtain ⟨h1, h2⟩ := hy
  obtain ⟨h3, h4⟩ := hz
  dsimp only at h1 h2 h3 h4 hb hl
  obtain ⟨a1, c1, rfl⟩ := h1.form
  obtain ⟨a2, c2, rfl⟩ := h2.form
  obtain ⟨a3, c3, rfl⟩ := h3.form
  obtain ⟨a4, c4, rfl⟩ := h4.form
  rw [bI_len] at h1 h3
  obtain ⟨n1, hn1⟩ : ∃ m, b.length = m := ⟨_, rfl⟩
  obtain ⟨n2, hn2⟩ : ∃ m, l.length = m := ⟨_, rfl⟩
  rw [hn1] at h1 h3 hb
  rw [hn2] at h2 h4 hl
  have hw : ∀ o p, Below w.heap.size w ((w.alloc o).alloc p) := fun o p => ((Below.refl _ w).alloc (Nat.le_refl _) o).alloc (by simp) p
  have HW := Lib.hid hw
  have H1 := Lib.hid h1
  have H2 := Lib.hid h2
  have H3 := Lib.hid h3
  have H4 := Lib.hid h4
  have HN1 := Lib.hid (show n1 = (bI b).length by rw [bI_len, hn1])
  have HN2 := Lib.hid hn2
  show Calls Try.prog 21 #[.agg #[.int .i64 k, .int .u64 u, .int .i64 n, .slice a1 (bI b).length c1, .slice a2 l.length c2], .agg #[.int .i64 k, .int .u64 u, .int .i64 n, .slice a3 (bI b).length c3, .slice a4 l.length c4]] w _
  rw [← HN1.out, HN2.out]
  clear hn1 hn2 h1 h2 h3 h4 hw
  go_enter Try.func21, Try.ntmps21
  go_wp2_with fail
  refine (sameBytes_any (bI b) (bI b) a1 a3 n1 n1 c1 c3 _ _ true _ HN1.out HN1.out (by omega) (by omega) (H1.out.new (HW.out _ _)).rd (H3.out.new (HW.out _ _)).rd (Nat.le_refl _) (Nat.le_refl _) (by simp)).mono ?_
  rintro e w1 ⟨rfl, hb1⟩
  have BA := (two_a w _ _ _ _ _ _).new hb1
  have BB := (two_b w _ _ _ _ _ _).new hb1
  obtain ⟨c10, c11, c12, c13, c14⟩ := BA.cells
  obtain ⟨c20, c21, c22, c23, c24⟩ := BB.cells
  have HB1 := Lib.hid ((HW.out _ _).trans (hb1.mono (HW.out _ _).size))
  have HBA := Lib.hid BA
  have HBB := Lib.hid BB
  clear BA BB hb1
  go_wp2_with fail
  refine (sameInts_any l l a2 a4 n2 n2 c2 c4 _ _ true w1 HN2.out.symm HN2.out.symm (by omega) (by omega) (H2.out.new HB1.out).rd (H4.out.new HB1.out).rd (Nat.le_refl _) (Nat.le_refl _) (by simp)).mono ?_
  rintro e w2 ⟨rfl, hb2⟩
  clear c10 c11 c12 c13 c14 c20 c21 c22 c23 c24
  obtain ⟨c10, c11, c12, c13, c14⟩ := (HBA.out.new hb2).cells
  obtain ⟨c20, c21, c22, c23, c24⟩ := (HBB.out.new hb2).cells
  have HB2 := Lib.hid (HB1.out.trans (hb2.mono HB1.out.size))
  clear hb2
  go_wp2
  go_ret
  exact ⟨rfl, HB2.out⟩
set_option maxRecDepth 100000 in
set_option maxHeartbeats 4000000 in
theorem rencode_any (ys : List Y) (A : Option Addr) (n c : Nat) (ok : Nat → Prop) (w : World) (hf : ∀ y ∈ ys, Fit y.x) (hn : ys.length = n) (hl : n ≤ 40) (h : Vs w ok (.slice A n c) ys) :
    Calls Try.prog 17 #[.slice A n c] w (Fresh .u8 5 (bI (encs (xs ys))) w) := by
  obtain ⟨i0, hi0, hz0, hz1, hz2⟩ := info_parts byte_info
  have HN := Lib.hid hn
  have HF := Lib.hid hf
  have HV := Lib.hid h.lt
  clear hn hf h
  go_enter Try.func17, Try.ntmps17
  go_wp2
  go_loopw [3, 4] (fun v i wr => ∃ j : Nat, j ≤ n ∧ i = .int .i64 j ∧ wr.ownsRow w.heap.size 5 1 v (encs (xs (ys.take j))).length (vs .u8 (bI (encs (xs (ys.take j))))) ∧ Below w.heap.size w wr ∧ Vs wr (· < w.heap.size) (.slice A n c) ys) (fun _ i _ => n - (intOf i).toNat)
  case atStart => exact ⟨0, Nat.zero_le _, rfl, World.ownsRow_nil _ _ _ _, Below.refl _ _, HV.out⟩
  case round =>
    obtain ⟨j, hj, rfl, hw, hb, hv⟩ := hrel
    obtain ⟨k0, hk0⟩ : ∃ k, (encs (xs (ys.take j))).length = k := ⟨_, rfl⟩
    rw [hk0] at hw
    have HK := Lib.hid hk0
    have HW2 := Lib.hid hw
    have HV2 := Lib.hid hv
    have hkl : k0 ≤ 800000 := by
      have := encs_len (ys := ys.take j) (fun z hz => HF.out z (List.mem_of_mem_take hz))
      have h2 : (ys.take j).length ≤ 40 := by rw [List.length_take]; omega
      omega
    clear hw hv hk0
    by_cases hlt : j < n
    · have hjl : j < ys.length := by rw [HN.out]; exact hlt
      obtain ⟨y, hy⟩ : ∃ y, ys[j]? = some y := ⟨_, List.getElem?_eq_getElem hjl⟩
      obtain ⟨g, rfl, hg1, hg2, hyi, hc0, hc1, hc2, hc3, hc4⟩ := HV2.out.at_ hy
      have HS := Lib.hid (encs_take_succ hy)
      have HFY := Lib.hid (HF.out y (List.mem_of_getElem? hy))
      clear hy
      obtain ⟨⟨k, u, i, bs, is⟩, sb, sl⟩ := y
      obtain ⟨hyi1, hyi2⟩ := hyi
      dsimp only at hc0 hc1 hc2 hc3 hc4 HS HFY hyi1 hyi2
      obtain ⟨a9, c9, rfl⟩ := hyi1.form
      obtain ⟨a8, c8, rfl⟩ := hyi2.form
      rw [bI_len] at hc3 hyi1
      have HY1 := Lib.hid hyi1
      have HY2 := Lib.hid hyi2
      clear hyi1 hyi2
      have hk5 := HFY.out.k
      dsimp only at hk5
      obtain rfl | rfl | rfl | rfl | rfl | rfl : k = 0 ∨ k = 1 ∨ k = 2 ∨ k = 3 ∨ k = 4 ∨ k = 5 := by omega
      · have HE := Lib.hid (show encV ⟨0, u, i, bs, is⟩ = uv u from rfl)
        go_wp2_with fail
        refine (ruv_any u wr HFY.out.u).mono ?_
        rintro e w3 ⟨a4, c4, rfl, hown4, hb3⟩
        have hown5 := own_below HW2.out hb3
        have HI := Lib.hid (In.own hown4)
        obtain ⟨q, hq⟩ : ∃ q, (bI (uv u)).length = q := ⟨_, rfl⟩
        rw [hq] at HI ⊢
        have hql : q ≤ 10010 := by rw [← hq, bI_len, ← HE.out]; exact encV_len HFY.out
        have HQ := Lib.hid hq
        have hb4 := hb.trans (hb3.mono hb.size)
        have HO2 := Lib.hid (show k0 + q ≤ maxLen by unfold maxLen; omega)
        have HO3 := Lib.hid (show (k0 + q) * 1 ≤ 140737488355328 by omega)
        have HO4 := Lib.hid hb4.size
        have HV3 := Lib.hid (HV2.out.new hb3)
        clear hq hown4
        go_wp2_with (at_builtin; refine wpList_append_in rfl _ _ 24 rfl w.heap.size 5 i0 (.int .u8 0) 1 Try.underlying24 hi0 hz0 hz1 hz2 rfl _ _ _ rfl hown5 .u8 _ _ _ _ _ rfl HI.out HO2.out HO3.out HO4.out ?_; intro v' w4 hown' hgrow)
        have hb5 := hb4.grown hgrow HO4.out (own_block_ge hown5)
        have HV4 := Lib.hid (HV3.out.kp (t := fun b => u3.ownBlock = some b) ((Kp.refl _ w3).grown hgrow (fun k hk _ => hk)) (fun b _ h1 h2 => by have := own_block_ge hown5 b h2; omega))
        clear hgrow
        go_wp2
        go_roundw
        case rel =>
          refine ⟨j + 1, by omega, by go_num, ?_, hb5, HV4.out⟩
          rw [HS.out, HE.out, bI_append, vs_append, List.length_append, HK.out, ← bI_len (uv u), HQ.out]
          exact hown'
        case measure => simp [intOf]; omega
      · have HE := Lib.hid (show encV ⟨1, u, i, bs, is⟩ = uv (zz i) from rfl)
        go_wp2_with fail
        refine (rint_any i wr HFY.out.n).mono ?_
        rintro e w3 ⟨a4, c4, rfl, hown4, hb3⟩
        have hown5 := own_below HW2.out hb3
        have HI := Lib.hid (In.own hown4)
        obtain ⟨q, hq⟩ : ∃ q, (bI (uv (zz i))).length = q := ⟨_, rfl⟩
        rw [hq] at HI ⊢
        have hql : q ≤ 10010 := by rw [← hq, bI_len, ← HE.out]; exact encV_len HFY.out
        have HQ := Lib.hid hq
        have hb4 := hb.trans (hb3.mono hb.size)
        have HO2 := Lib.hid (show k0 + q ≤ maxLen by unfold maxLen; omega)
        have HO3 := Lib.hid (show (k0 + q) * 1 ≤ 140737488355328 by omega)
        have HO4 := Lib.hid hb4.size
        have HV3 := Lib.hid (HV2.out.new hb3)
        clear hq hown4
        go_wp2_with (at_builtin; refine wpList_append_in rfl _ _ 24 rfl w.heap.size 5 i0 (.int .u8 0) 1 Try.underlying24 hi0 hz0 hz1 hz2 rfl _ _ _ rfl hown5 .u8 _ _ _ _ _ rfl HI.out HO2.out HO3.out HO4.out ?_; intro v' w4 hown' hgrow)
        have hb5 := hb4.grown hgrow HO4.out (own_block_ge hown5)
        have HV4 := Lib.hid (HV3.out.kp (t := fun b => u3.ownBlock = some b) ((Kp.refl _ w3).grown hgrow (fun k hk _ => hk)) (fun b _ h1 h2 => by have := own_block_ge hown5 b h2; omega))
        clear hgrow
        go_wp2
        go_roundw
        case rel =>
          refine ⟨j + 1, by omega, by go_num, ?_, hb5, HV4.out⟩
          rw [HS.out, HE.out, bI_append, vs_append, List.length_append, HK.out, ← bI_len (uv (zz i)), HQ.out]
          exact hown'
        case measure => simp [intOf]; omega
      · have HE := Lib.hid (show encV ⟨2, u, i, bs, is⟩ = [if (i == 1) = true then 1 else 0] from by simp [encV])
        go_wp2_with fail
        refine (rbool_any (i == 1) wr).mono ?_
        rintro e w3 ⟨a4, c4, rfl, hown4, hb3⟩
        have hown5 := own_below HW2.out hb3
        have HI := Lib.hid (In.own hown4)
        obtain ⟨q, hq⟩ : ∃ q, (bI [if (i == 1) = true then 1 else 0]).length = q := ⟨_, rfl⟩
        rw [hq] at HI ⊢
        have hql : q ≤ 10010 := by rw [← hq, bI_len, ← HE.out]; exact encV_len HFY.out
        have HQ := Lib.hid hq
        have hb4 := hb.trans (hb3.mono hb.size)
        have HO2 := Lib.hid (show k0 + q ≤ maxLen by unfold maxLen; omega)
        have HO3 := Lib.hid (show (k0 + q) * 1 ≤ 140737488355328 by omega)
        have HO4 := Lib.hid hb4.size
        have HV3 := Lib.hid (HV2.out.new hb3)
        clear hq hown4
        go_wp2_with (at_builtin; refine wpList_append_in rfl _ _ 24 rfl w.heap.size 5 i0 (.int .u8 0) 1 Try.underlying24 hi0 hz0 hz1 hz2 rfl _ _ _ rfl hown5 .u8 _ _ _ _ _ rfl HI.out HO2.out HO3.out HO4.out ?_; intro v' w4 hown' hgrow)
        have hb5 := hb4.grown hgrow HO4.out (own_block_ge hown5)
        have HV4 := Lib.hid (HV3.out.kp (t := fun b => u3.ownBlock = some b) ((Kp.refl _ w3).grown hgrow (fun k hk _ => hk)) (fun b _ h1 h2 => by have := own_block_ge hown5 b h2; omega))
        clear hgrow
        go_wp2
        go_roundw
        case rel =>
          refine ⟨j + 1, by omega, by go_num, ?_, hb5, HV4.out⟩
          rw [HS.out, HE.out, bI_append, vs_append, List.length_append, HK.out, ← bI_len [if (i == 1) = true then 1 else 0], HQ.out]
          exact hown'
        case measure => simp [intOf]; omega
      · have HE := Lib.hid (show encV ⟨3, u, i, bs, is⟩ = (uv bs.length ++ bs) from rfl)
        go_wp2_with fail
        refine (rraw_any bs _ _ _ _ wr rfl (by have := HFY.out.b; exact this) HY1.out).mono ?_
        rintro e w3 ⟨a4, c4, rfl, hown4, hb3⟩
        have hown5 := own_below HW2.out hb3
        have HI := Lib.hid (In.own hown4)
        obtain ⟨q, hq⟩ : ∃ q, (bI (uv bs.length ++ bs)).length = q := ⟨_, rfl⟩
        rw [hq] at HI ⊢
        have hql : q ≤ 10010 := by rw [← hq, bI_len, ← HE.out]; exact encV_len HFY.out
        have HQ := Lib.hid hq
        have hb4 := hb.trans (hb3.mono hb.size)
        have HO2 := Lib.hid (show k0 + q ≤ maxLen by unfold maxLen; omega)
        have HO3 := Lib.hid (show (k0 + q) * 1 ≤ 140737488355328 by omega)
        have HO4 := Lib.hid hb4.size
        have HV3 := Lib.hid (HV2.out.new hb3)
        clear hq hown4
        go_wp2_with (at_builtin; refine wpList_append_in rfl _ _ 24 rfl w.heap.size 5 i0 (.int .u8 0) 1 Try.underlying24 hi0 hz0 hz1 hz2 rfl _ _ _ rfl hown5 .u8 _ _ _ _ _ rfl HI.out HO2.out HO3.out HO4.out ?_; intro v' w4 hown' hgrow)
        have hb5 := hb4.grown hgrow HO4.out (own_block_ge hown5)
        have HV4 := Lib.hid (HV3.out.kp (t := fun b => u3.ownBlock = some b) ((Kp.refl _ w3).grown hgrow (fun k hk _ => hk)) (fun b _ h1 h2 => by have := own_block_ge hown5 b h2; omega))
        clear hgrow
        go_wp2
        go_roundw
        case rel =>
          refine ⟨j + 1, by omega, by go_num, ?_, hb5, HV4.out⟩
          rw [HS.out, HE.out, bI_append, vs_append, List.length_append, HK.out, ← bI_len (uv bs.length ++ bs), HQ.out]
          exact hown'
        case measure => simp [intOf]; omega
      · have HE := Lib.hid (show encV ⟨4, u, i, bs, is⟩ = (uv bs.length ++ bs) from rfl)
        go_wp2_with fail
        refine (rraw_any bs _ _ _ _ wr rfl (by have := HFY.out.b; exact this) HY1.out).mono ?_
        rintro e w3 ⟨a4, c4, rfl, hown4, hb3⟩
        have hown5 := own_below HW2.out hb3
        have HI := Lib.hid (In.own hown4)
        obtain ⟨q, hq⟩ : ∃ q, (bI (uv bs.length ++ bs)).length = q := ⟨_, rfl⟩
        rw [hq] at HI ⊢
        have hql : q ≤ 10010 := by rw [← hq, bI_len, ← HE.out]; exact encV_len HFY.out
        have HQ := Lib.hid hq
        have hb4 := hb.trans (hb3.mono hb.size)
        have HO2 := Lib.hid (show k0 + q ≤ maxLen by unfold maxLen; omega)
        have HO3 := Lib.hid (show (k0 + q) * 1 ≤ 140737488355328 by omega)
        have HO4 := Lib.hid hb4.size
        have HV3 := Lib.hid (HV2.out.new hb3)
        clear hq hown4
        go_wp2_with (at_builtin; refine wpList_append_in rfl _ _ 24 rfl w.heap.size 5 i0 (.int .u8 0) 1 Try.underlying24 hi0 hz0 hz1 hz2 rfl _ _ _ rfl hown5 .u8 _ _ _ _ _ rfl HI.out HO2.out HO3.out HO4.out ?_; intro v' w4 hown' hgrow)
        have hb5 := hb4.grown hgrow HO4.out (own_block_ge hown5)
        have HV4 := Lib.hid (HV3.out.kp (t := fun b => u3.ownBlock = some b) ((Kp.refl _ w3).grown hgrow (fun k hk _ => hk)) (fun b _ h1 h2 => by have := own_block_ge hown5 b h2; omega))
        clear hgrow
        go_wp2
        go_roundw
        case rel =>
          refine ⟨j + 1, by omega, by go_num, ?_, hb5, HV4.out⟩
          rw [HS.out, HE.out, bI_append, vs_append, List.length_append, HK.out, ← bI_len (uv bs.length ++ bs), HQ.out]
          exact hown'
        case measure => simp [intOf]; omega
      · have HE := Lib.hid (show encV ⟨5, u, i, bs, is⟩ = (uv is.length ++ ofInts is) from rfl)
        go_wp2_with fail
        refine (rints_any is _ _ _ _ wr rfl (by have := HFY.out.l; exact this) HFY.out.o HY2.out).mono ?_
        rintro e w3 ⟨a4, c4, rfl, hown4, hb3⟩
        have hown5 := own_below HW2.out hb3
        have HI := Lib.hid (In.own hown4)
        obtain ⟨q, hq⟩ : ∃ q, (bI (uv is.length ++ ofInts is)).length = q := ⟨_, rfl⟩
        rw [hq] at HI ⊢
        have hql : q ≤ 10010 := by rw [← hq, bI_len, ← HE.out]; exact encV_len HFY.out
        have HQ := Lib.hid hq
        have hb4 := hb.trans (hb3.mono hb.size)
        have HO2 := Lib.hid (show k0 + q ≤ maxLen by unfold maxLen; omega)
        have HO3 := Lib.hid (show (k0 + q) * 1 ≤ 140737488355328 by omega)
        have HO4 := Lib.hid hb4.size
        have HV3 := Lib.hid (HV2.out.new hb3)
        clear hq hown4
        go_wp2_with (at_builtin; refine wpList_append_in rfl _ _ 24 rfl w.heap.size 5 i0 (.int .u8 0) 1 Try.underlying24 hi0 hz0 hz1 hz2 rfl _ _ _ rfl hown5 .u8 _ _ _ _ _ rfl HI.out HO2.out HO3.out HO4.out ?_; intro v' w4 hown' hgrow)
        have hb5 := hb4.grown hgrow HO4.out (own_block_ge hown5)
        have HV4 := Lib.hid (HV3.out.kp (t := fun b => u3.ownBlock = some b) ((Kp.refl _ w3).grown hgrow (fun k hk _ => hk)) (fun b _ h1 h2 => by have := own_block_ge hown5 b h2; omega))
        clear hgrow
        go_wp2
        go_roundw
        case rel =>
          refine ⟨j + 1, by omega, by go_num, ?_, hb5, HV4.out⟩
          rw [HS.out, HE.out, bI_append, vs_append, List.length_append, HK.out, ← bI_len (uv is.length ++ ofInts is), HQ.out]
          exact hown'
        case measure => simp [intOf]; omega
    · have he : ys.take j = ys := List.take_of_length_le (by rw [HN.out]; omega)
      rw [he] at HK
      obtain ⟨a5, c5, rfl⟩ := own_form HW2.out
      have HE := Lib.hid he
      clear he
      go_wp2
      go_ret
      have hl2 : (bI (encs (xs ys))).length = k0 := by rw [bI_len]; exact HK.out
      refine ⟨a5, c5, by rw [hl2]; rfl, ?_, hb⟩
      have := HW2.out
      rw [HE.out] at this
      rw [hl2]
      exact this
end Go.Proofs.Ytgcgifjfgmhhmaa
