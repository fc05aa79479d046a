/- The walk of WireRound: the law returns true for every input; what lay lies as it lay. -/
import Derived.Test.YtgcgifjfgmhhmaaWSame
import Derived.Deep.RegionHeld3
import Derived.Deep.RegionWith
namespace Go.Proofs.Ytgcgifjfgmhhmaa
open Go.RowKit

theorem lit_new (w : World) (cs : List Value) (t : TypeId) : ∀ j u, cs[j]? = some u → (w.alloc (.cells cs.toArray t)).cell? ((⟨w.heap.size, 0, none⟩ : Addr).add j) = some u := by
  intro j u hj
  rw [Go.WideShapes.add_plain, Nat.zero_add]
  have h := World.alloc_heap_new w (.cells cs.toArray t)
  rw [cell_of_row _ _ j _ _ _ h]
  simpa using hj
theorem all_one (cs : List Value) (h : cs.all Value.oneCell' = true) : ∀ u ∈ cs, u.oneCell' = true := by
  intro u hu
  exact List.all_eq_true.1 h u hu
theorem src_of_row {k : IntKind} {w : World} {a : Option Addr} {len cap : Nat} {zs : List Int}
    (h : (a = none ∧ len = 0 ∧ cap = 0 ∧ zs = []) ∨ ∃ x, a = some x ∧ len ≤ cap ∧ cap ≤ maxLen ∧ zs.length = cap ∧ (∀ i, i < zs.length → w.cell? (x.add i) = some (.int k (zs.getD i 0))) ∧ ∀ n ∈ zs, (Lit.int k n).wf = true) :
    Src k w (.slice a len cap) (zs.take len) ∧ (zs.take len).length ≤ maxLen ∧ ∀ n ∈ zs.take len, (Lit.int k n).wf = true := by
  rcases h with ⟨rfl, rfl, rfl, rfl⟩ | ⟨x, rfl, h1, h2, h3, h4, h5⟩
  · exact ⟨.inl ⟨rfl, rfl⟩, by simp, fun n hn => by simp at hn⟩
  · have hl : (zs.take len).length = len := by rw [List.length_take]; omega
    refine ⟨.inr ⟨x, cap, by rw [hl], by omega, fun j v hj => ?_⟩, by omega, fun n hn => h5 n (List.mem_of_mem_take hn)⟩
    have hjl : j < zs.length := by have := (List.getElem?_eq_some_iff.1 hj).1; omega
    rw [List.getElem?_take] at hj
    split at hj
    · have := h4 j hjl
      rw [List.getD_eq_getElem?_getD, hj] at this
      exact this
    · cases hj

theorem rows_done {w W w1 : World} {v v' : Value} {ys ys2 : List Y} {j k : Nat} {cs zs : List Value} (hys : ∀ y ∈ ys, Short y.x ∧ y.In W (Off w.heap.size v)) (hown : W.ownsRow w.heap.size 28 5 v j zs)
    (hown' : w1.ownsRow w.heap.size 28 5 v' (j + k) (cells5 ys ++ cs)) (hgrow : W.grownBy w1 v.ownBlock) (hat : v'.ownBlock = v.ownBlock ∨ v'.ownBlock = some W.heap.size) (hb : Below w.heap.size w W)
    (hs : ∀ y ∈ ys2, Short y.x ∧ y.In W (Off w.heap.size v)) (hc : cs = cells5 ys2) :
    w1.ownsRow w.heap.size 28 5 v' (j + k) (cells5 (ys ++ ys2)) ∧ (∀ y ∈ ys ++ ys2, Short y.x ∧ y.In w1 (Off w.heap.size v')) ∧ Below w.heap.size w w1 := by
  refine ⟨by rw [cells5_append, ← hc]; exact hown', fun z hz => ?_, hb.grown hgrow hb.size (own_block_ge hown)⟩
  rcases List.mem_append.1 hz with hz | hz
  · exact ⟨(hys z hz).1, keepY (hys z hz).2 hgrow hat⟩
  · exact ⟨(hs z hz).1, keepY (hs z hz).2 hgrow hat⟩
theorem encV_short {x : V} (h : Short x) : (encV x).length ≤ 210 := by
  obtain ⟨k, u, n, b, l⟩ := x
  obtain ⟨_, ⟨hk, hu, hn, _, _, ho⟩, hb, hl⟩ := h
  have hol : ∀ l : List Int, (∀ y ∈ l, ok64 y) → (ofInts l).length ≤ 10 * l.length := by
    intro l
    induction l with
    | nil => intro _; simp [ofInts]
    | cons y l ih =>
      intro h
      have h1 := uv_len10 (zz_lt (h y (List.mem_cons_self ..)).1 (h y (List.mem_cons_self ..)).2)
      have h2 := ih fun z hz => h z (List.mem_cons_of_mem _ hz)
      simp only [ofInts, List.flatMap_cons, List.length_append, List.length_cons] at h2 ⊢
      omega
  dsimp only at hk hu hn hb hl ho
  match k, hk with
  | 0, _ => have := uv_len10 hu; simp only [encV]; omega
  | 1, _ => have := uv_len10 (zz_lt hn.1 hn.2); simp only [encV]; omega
  | 2, _ => simp [encV]
  | 3, _ => have := uv_len10 (n := b.length) (by omega); simp only [encV, List.length_append]; omega
  | 4, _ => have := uv_len10 (n := b.length) (by omega); simp only [encV, List.length_append]; omega
  | 5, _ => have := uv_len10 (n := l.length) (by omega); have := hol l ho; simp only [encV, List.length_append]; omega
theorem encs_short {ys : List Y} (h : ∀ y ∈ ys, Short y.x) : (encs (xs ys)).length ≤ 210 * ys.length := by
  induction ys with
  | nil => simp [encs, xs]
  | cons y ys ih =>
    have h1 := encV_short (h y (List.mem_cons_self ..))
    have h2 := ih fun z hz => h z (List.mem_cons_of_mem _ hz)
    simp only [encs, xs, List.map_cons, List.flatMap_cons, List.length_append, List.length_cons] at h2 ⊢
    omega
theorem encs_drop {ys : List Y} {j : Nat} {y : Y} (h : ys[j]? = some y) : encs (xs (ys.drop j)) = encV y.x ++ encs (xs (ys.drop (j + 1))) := by
  obtain ⟨hl, hy⟩ := List.getElem?_eq_some_iff.1 h
  rw [List.drop_eq_getElem_cons hl, hy, xs, List.map_cons, ← xs, encs_cons]
/-- The five cells of one value in a slice of values. -/
def Five (w : World) (G o : Nat) (y : Y) : Prop := w.cell? ⟨G, o, none⟩ = some (.int .i64 y.x.k) ∧ w.cell? ⟨G, o + 1, none⟩ = some (.int .u64 y.x.u) ∧ w.cell? ⟨G, o + 2, none⟩ = some (.int .i64 y.x.n) ∧ w.cell? ⟨G, o + 3, none⟩ = some y.sb ∧ w.cell? ⟨G, o + 4, none⟩ = some y.sl
theorem Five.kp {w w' : World} {G o : Nat} {y : Y} {t : Nat → Prop} (h : Five w G o y) (hk : Kp t w w') (hG : G < w.heap.size) (ht : ¬ t G) : Five w' G o y :=
  have e : ∀ i, w'.cell? ⟨G, i, none⟩ = w.cell? ⟨G, i, none⟩ := fun i => hk.cell (p := ⟨G, i, none⟩) hG ht
  ⟨(e _).trans h.1, (e _).trans h.2.1, (e _).trans h.2.2.1, (e _).trans h.2.2.2.1, (e _).trans h.2.2.2.2⟩
theorem Y.In.drew {y : Y} {w : World} {ok : Nat → Prop} (h : y.In w ok) : y.In w.drew ok := h
theorem Vs.of_rows {w : World} {B n : Nat} {v : Value} {ys : List Y} (h : w.ownsRow B 28 5 v n (cells5 ys)) (hn : n = ys.length) (hs : ∀ y ∈ ys, Short y.x ∧ y.In w (Off B v)) : Vs w (· < w.heap.size) v ys :=
  Vs.own h hn (fun y hy => (y.in_lt (hs y hy).2).mono fun _ _ h => h.2) (fun _ _ h => h)
set_option maxHeartbeats 1600000 in
theorem wireRound_walk (ls : List Int) (A : Option Addr) (ln c : Nat) (u : Nat) (n : Int) (w : World) (hln : ls.length = ln) (hlm : ln ≤ maxLen) (hwf : ∀ x ∈ ls, (Lit.int .i64 x).wf = true) (hsrc : Src .i64 w (.slice A ln c) ls) (hu : u < 18446744073709551616) (hn : ok64 n) :
    Calls Try.prog 5 #[.slice A ln c, .int .u64 u, .int .i64 n] w fun e w' => e = .returned (.bool true) ∧ Below w.heap.size w w' := by
  obtain ⟨i0, hi0, hz0, hz1, hz2⟩ := info_parts val_info
  have HU := Lib.hid hu
  have HN := Lib.hid hn
  clear hu hn
  go_enter Try.func5, Try.ntmps5
  go_wp2_with fail
  refine (vals_any ls A ln c w hln hlm hwf hsrc).mono ?_
  rintro e w1 ⟨a1, c1, ys, rfl, hy8, hown, hys, hb1, _⟩
  obtain ⟨m, hm⟩ : ∃ m, ys.length = m := ⟨_, rfl⟩
  rw [hm] at hy8 hown hys ⊢
  have HM := Lib.hid hm
  have HYS := Lib.hid hys
  have HO2 := Lib.hid (show m + 2 ≤ maxLen by unfold maxLen; omega)
  have HO3 := Lib.hid (show (m + 2) * 72 ≤ 140737488355328 by omega)
  have HO4 := Lib.hid hb1.size
  clear hm hys hwf hln hlm hsrc
  go_wp2_with (at_builtin; refine wpList_append_own_at _ rfl _ _ 25 rfl w.heap.size 28 i0 _ 5 72 Try.underlying25 hi0 hz0 hz1 hz2 rfl (by decide) _ _ _ rfl (hown.alloc _) ⟨w1.heap.size, 0, none⟩ 2 2 [_, _, _, _, _, _, _, _, _, _] rfl rfl (lit_new _ [_, _, _, _, _, _, _, _, _, _] _) (all_one [_, _, _, _, _, _, _, _, _, _] rfl) HO2.out HO3.out (alloc_ge HO4.out) ?_; intro v' w2 hown' hgrow _ hat)
  have hba := fun o => (Below.refl w1.heap.size w1).alloc (Nat.le_refl _) o
  obtain ⟨hrow, hall, hb2⟩ := rows_done (ys2 := [⟨⟨0, u, 0, [], []⟩, .slice none 0 0, .slice none 0 0⟩, ⟨⟨1, 0, n, [], []⟩, .slice none 0 0, .slice none 0 0⟩]) (fun z hz => ⟨(HYS.out z hz).1, (HYS.out z hz).2.new (hba _)⟩) (hown.alloc _) hown' hgrow hat (hb1.trans ((hba _).mono HO4.out))
    (fun y hy => by
      simp only [List.mem_cons, List.not_mem_nil, or_false] at hy
      rcases hy with rfl | rfl
      · exact ⟨short_u (p := True) ⟨trivial, HU.out⟩, In.nil, In.nil⟩
      · exact ⟨short_i HN.out, In.nil, In.nil⟩) rfl
  obtain ⟨zs, hzs⟩ : ∃ zs, ys ++ [⟨⟨0, u, 0, [], []⟩, .slice none 0 0, .slice none 0 0⟩, ⟨⟨1, 0, n, [], []⟩, .slice none 0 0, .slice none 0 0⟩] = zs := ⟨_, rfl⟩
  have hzl : zs.length = m + 2 := by rw [← hzs, List.length_append, HM.out]; rfl
  rw [hzs] at hrow hall
  obtain ⟨a2, c2, rfl⟩ := own_form hrow
  have hvs := Vs.of_rows hrow hzl.symm hall
  obtain ⟨k, hk⟩ : ∃ k, m + 2 = k := ⟨_, rfl⟩
  rw [hk] at hzl hvs ⊢
  have hk10 : k ≤ 10 := by omega
  have HZL := Lib.hid hzl
  have HVS := Lib.hid hvs
  have HSH := Lib.hid (show ∀ y ∈ zs, Short y.x from fun y hy => (hall y hy).1)
  have HB2 := Lib.hid hb2
  clear hzs hrow hall hown hown' hgrow hat hba hzl hvs hk hb1 hb2 HYS HM HO2 HO3 HO4
  go_wp2_with fail
  refine (encode_any zs a2 k c2 _ w2 (fun y hy => (HSH.out y hy).fit) HZL.out (by omega) HVS.out).mono ?_
  rintro e w3 ⟨a3, c3, rfl, hown3, hb3⟩
  have HB3 := Lib.hid (HB2.out.trans (hb3.mono HB2.out.size))
  have HI3 := Lib.hid (In.own hown3)
  have HVS3 := Lib.hid (HVS.out.new hb3)
  clear hown3 hb3 HB2 HVS
  go_wp2_with fail
  refine (read_new (encs (xs zs)) a3 _ c3 _ w3 (by rw [bI_len]) (by rw [bI_len]; have := encs_short HSH.out; have := HZL.out; omega) HI3.out).mono ?_
  rintro e w4 ⟨⟨g, rfl, hr4, hg4⟩, hb4⟩
  have HB4 := Lib.hid (HB3.out.trans (hb4.mono HB3.out.size))
  have HG1 := Lib.hid (Nat.le_trans HB3.out.size hg4)
  have HVS4 := Lib.hid ((HVS3.out.lt.new hb4).mono (ok' := (· < g)) (fun b _ h => by have := hg4; omega))
  have HR4 := Lib.hid (hr4.mono (ok' := (· < g)) (fun b _ h => h.2) (fun h => Nat.lt_irrefl _ h))
  clear hr4 hb4 hg4 HB3 HI3 HVS3
  go_wp2_with fail
  go_loopw [9] (fun i wr => ∃ j : Nat, j ≤ k ∧ i = .int .i64 j ∧ Rdr 77 wr g (· < g) ⟨encs (xs (zs.drop j)), 0⟩ ∧ Vs wr (· < g) (.slice a2 k c2) zs ∧ Below w.heap.size w wr) (fun i _ => k - (intOf i).toNat)
  case atStart => exact ⟨0, by omega, rfl, by rw [List.drop_zero]; exact HR4.out, HVS4.out, HB4.out⟩
  case round =>
    obtain ⟨j, hj, rfl, hrd, hvs, hb⟩ := hrel
    have HRD := Lib.hid hrd
    have HVV := Lib.hid hvs
    have HBB := Lib.hid hb
    clear hrd hvs hb
    by_cases hlt : j < k
    · have hjl : j < zs.length := by rw [HZL.out]; exact hlt
      obtain ⟨y, hy⟩ : ∃ y, zs[j]? = some y := ⟨_, List.getElem?_eq_getElem hjl⟩
      obtain ⟨G, rfl, hg1, hg2, hyi, hc0, hc1, hc2, hc3, hc4⟩ := HVV.out.at_ hy
      have HD := Lib.hid (encs_drop hy)
      have HSY := Lib.hid (HSH.out y (List.mem_of_getElem? hy))
      have HYI := Lib.hid hyi
      clear hy hyi
      have hj0 : (0 : Int) ≤ (j : Int) := by omega
      have hj1 : (j : Int) < (k : Int) := by omega
      have HC := Lib.hid (show Five wr G (j * 5) y from ⟨hc0, hc1, hc2, hc3, hc4⟩)
      have HRT := Lib.hid (readV_rt HSY.out.good (encs (xs (zs.drop (j + 1)))))
      have HRDD := Lib.hid (show Rdr 77 (World.drew wr) g (· < g) ⟨encV y.x ++ encs (xs (zs.drop (j + 1))), 0⟩ by rw [← HD.out]; exact HRD.out)
      have HGL := Lib.hid HRD.out.lt
      have HK5 := Lib.hid HSY.out.fit.k
      go_wp2_with fail
      go_region_held3 (fun w' => w'.cell? ⟨G, j * 5, none⟩ = some (.int .i64 y.x.k) ∧ w'.cell? ⟨G, j * 5 + 1, none⟩ = some (.int .u64 y.x.u) ∧ w'.cell? ⟨G, j * 5 + 2, none⟩ = some (.int .i64 y.x.n) ∧ w'.cell? ⟨G, j * 5 + 3, none⟩ = some y.sb ∧ w'.cell? ⟨G, j * 5 + 4, none⟩ = some y.sl) (first | assumption | exact ⟨hc0, hc1, hc2, hc3, hc4⟩ | go_keep)
        (first | (go_at_call 22; refine (lread_any y.x.k g _ _ _ HK5.out HRDD.out (fun b hb => Nat.lt_trans hb HGL.out)).mono ?_; rintro e w5 ⟨y', rfl, hyx, hyin, hrd5, hk5⟩; rw [HRT.out] at hyx hrd5; have hS5 := HC.out.kp (w := World.drew wr) hk5 hg2 (Nat.ne_of_lt hg1); have HS5 := Lib.hid hS5; unfold Five at hS5) | (go_at_call 21; refine (same_true y' y _ (· < g) _ hyx hyin (HYI.out.kp (w := World.drew wr) hk5 (fun b _ h1 h2 => Nat.ne_of_lt h1 h2)) (by rw [hyx]; exact HSY.out.fit.b) (by rw [hyx]; exact HSY.out.fit.l)).mono ?_; rintro e w6 ⟨rfl, hb6⟩; have hS6 := HS5.out.kp (t := fun _ => False) (Kp.new hb6) (Nat.lt_of_lt_of_le hg2 hk5.size) (fun e => e); unfold Five at hS6))
      have HR6 := Lib.hid (hrd5.new hb6)
      have HV6 := Lib.hid ((HVV.out.kp (w' := w5) (t := (· = g)) ⟨hk5.os, hk5.tape, hk5.output, hk5.size, hk5.block⟩ (fun b _ h e => Nat.ne_of_lt h e)).new hb6)
      have hb5 := below_own1 (w' := World.drew wr) HBB.out.drew (Nat.le_refl _) hk5 HG1.out
      have HB6 := Lib.hid (hb5.trans (hb6.mono hb5.size))
      clear hS5 hS6 hb6 hb5 hk5 hrd5 hyin hyx
      go_wp2
      go_roundw
      case rel => exact ⟨j + 1, by omega, by go_num, HR6.out, HV6.out, HB6.out⟩
      case measure => simp [intOf]; omega
    · have he : zs.drop j = [] := List.drop_of_length_le (by rw [HZL.out]; omega)
      rw [he] at HRD
      clear he
      go_wp2_with fail
      refine (rdend_any g _ _ wr HRD.out).mono ?_
      rw [show endS ⟨encs (xs []), 0⟩ = 0 from rfl]
      rintro e w' ⟨rfl, rfl⟩
      go_wp2_with fail
      refine (lives_any wr).mono ?_
      rintro e w5 ⟨rfl, hb5⟩
      have HB5 := Lib.hid (HBB.out.trans (hb5.mono HBB.out.size))
      go_wp2
      go_ret
      exact ⟨rfl, HB5.out⟩
/-- A slice of integers that came in, as the rows read it. -/
def RowI (k : IntKind) (w : World) (a : Option Addr) (len cap : Nat) (zs : List Int) : Prop :=
  (a = none ∧ len = 0 ∧ cap = 0 ∧ zs = []) ∨ ∃ x, a = some x ∧ len ≤ cap ∧ cap ≤ maxLen ∧ zs.length = cap ∧ (∀ i, i < zs.length → w.cell? (x.add i) = some (.int k (zs.getD i 0))) ∧ ∀ n ∈ zs, (Lit.int k n).wf = true
theorem RowI.open_ {k : IntKind} {w : World} {a : Option Addr} {len cap : Nat} {zs : List Int} (h : RowI k w a len cap zs) :
    ∃ ls : List Int, ls.length = len ∧ len ≤ maxLen ∧ (∀ x ∈ ls, (Lit.int k x).wf = true) ∧ Src k w (.slice a len cap) ls := by
  obtain ⟨h1, h2, h3⟩ := src_of_row h
  have hl : (zs.take len).length = len := by
    rcases h with ⟨_, rfl, _, rfl⟩ | ⟨x, _, h4, h5, h6, _⟩
    · rfl
    · rw [List.length_take]; omega
  exact ⟨zs.take len, hl, by rw [← hl]; exact h2, h3, h1⟩
theorem wireRound_law (a0 : Option Addr) (len0 cap0 : Nat) (z0 : List Int) (a1 a2 : Int) (w : World) (w0 : RowI .i64 w a0 len0 cap0 z0) (w1 : (Lit.int .u64 a1).wf = true) (w2 : (Lit.int .i64 a2).wf = true) :
    Calls Try.prog 5 #[.slice a0 len0 cap0, .int .u64 a1, .int .i64 a2] w fun e w' => e = .returned (.bool true) ∧ Below w.heap.size w w' := by
  obtain ⟨u, rfl, hu⟩ := u64_of_wf w1
  obtain ⟨ls, h1, h2, h3, h4⟩ := w0.open_
  exact wireRound_walk ls a0 len0 cap0 u a2 w h1 h2 h3 h4 hu (i64_of_wf w2)
end Go.Proofs.Ytgcgifjfgmhhmaa
