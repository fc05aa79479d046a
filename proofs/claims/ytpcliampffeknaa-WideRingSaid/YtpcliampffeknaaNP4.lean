/- Contracts of the program's words: comparing trimmed numbers, sums, differences. -/
import Derived.Test.YtpcliampffeknaaNP3
namespace Go.Proofs.Ytpcliampffeknaa
open Go.RowKit
attribute [local go_sem ↓] Go.wp_at_zero Go.wp_at_succ

/-- Two trimmed numbers. -/
theorem compareWords_any (x y : Nat) (A A' : Option Addr) (n n' c c' : Nat) (w : World) (hx : LI .u32 w (.slice A n c) (digs 4294967296 x)) (hy : LI .u32 w (.slice A' n' c') (digs 4294967296 y)) (hn : n ≤ 1000000) (hn' : n' ≤ 1000000) :
    Calls Try.prog 64 #[.slice A n c, .slice A' n' c'] w fun e w' => e = .returned (.int .i64 (cmpN x y)) ∧ Below w.heap.size w w' := by
  have h1 := hx.len.1
  have h2 := hy.len.1
  by_cases he : n = n'
  · subst he
    have := compareWords_eq _ _ A A' n c c' w (dig_digs (by decide) x) (dig_digs (by decide) y) hx hy hn
    rwa [val_digs (by decide), val_digs (by decide)] at this
  · obtain ⟨v, hv⟩ : ∃ v, cmpN x y = v := ⟨_, rfl⟩
    have HC := Lib.hid (show ((n : Int) < (n' : Int) ∧ v = -1) ∨ ((n : Int) = (n' : Int) ∧ v = 0) ∨ ((n' : Int) < (n : Int) ∧ v = 1) by
      rcases Nat.lt_trichotomy n n' with h | h | h
      · exact .inl ⟨by omega, by rw [← hv]; exact cmpN_lt (digs_len_lt (B := 4294967296) (by decide) (by omega))⟩
      · exact absurd h he
      · exact .inr (.inr ⟨by omega, by rw [← hv]; exact cmpN_gt (digs_len_lt (B := 4294967296) (by decide) (by omega))⟩))
    have hne : ((n : Int) != (n' : Int)) = true := by rw [bne_iff_ne]; omega
    rw [hv]
    clear hx hy h1 h2 he hv
    go_enter Try.func64, Try.ntmps64
    go_wp2_with (go_at_call 76; refine (cmpi_any _ _ v _ HC.out).mono ?_; rintro e w' ⟨rfl, rfl⟩)
    go_ret
    exact ⟨rfl, Below.refl _ _⟩

/-- What a function returns that returns words in a new block. -/
def RetB (P : List Nat → Prop) (w : World) (e : Ending) (w' : World) : Prop := ∃ G n o, e = .returned (.slice (some ⟨G, 0, none⟩) n n) ∧ w.heap.size ≤ G ∧ Blk .u32 w' G 75 o ∧ o.length = n ∧ Dig 4294967296 o ∧ P o ∧ Below w.heap.size w w'
theorem bx_blk_ne {k : IntKind} {w : World} {g G : Nat} {t t' : TypeId} {v : Value} {l : List Nat} (h : Boxed w g t v) (h' : Blk k w G t' l) (ht : t ≠ t') : g ≠ G := by
  rintro rfl
  unfold Boxed at h
  unfold Blk at h'
  rw [h] at h'
  injection h' with h'
  injection h' with _ e
  exact ht e
theorem bx_far {w : World} {g : Nat} {t : TypeId} {v : Value} (h : Boxed w g t v) {p : Addr} (hp : g ≠ p.block) (u : Value) : Boxed (w.setCell p u) g t v := (Below.heap_setCell w p u g hp).trans h
theorem bx_new {w w' : World} {g : Nat} {t : TypeId} {v : Value} (h : Boxed w g t v) (hb : Below w.heap.size w w') : Boxed w' g t v := (hb.block g h.lt).trans h

set_option maxRecDepth 100000 in
set_option maxHeartbeats 1600000 in
theorem sum_any (la lb : List Nat) (A A' : Option Addr) (n n' c c' : Nat) (w : World) (hda : Dig 4294967296 la) (hdb : Dig 4294967296 lb) (hx : LI .u32 w (.slice A n c) la) (hy : LI .u32 w (.slice A' n' c') lb) (hn : n ≤ 900000) (hn' : n' ≤ 900000) :
    Calls Try.prog 61 #[.slice A n c, .slice A' n' c'] w (RetB (fun o => val 4294967296 o = val 4294967296 la + val 4294967296 lb ∧ o.length = max n n' + 1) w) := by
  obtain ⟨i0, hi0, hz0, hz1, hz2⟩ := info_parts w32_info
  have HX := Lib.hid hx
  have HY := Lib.hid hy
  have HN := Lib.hid hx.len.1
  have HN' := Lib.hid hy.len.1
  have HDA := Lib.hid hda
  have HDB := Lib.hid hdb
  have HFT := Lib.hid (show val 4294967296 la + val 4294967296 lb < 4294967296 ^ (max n n' + 1) by
    have := sum_fits (B := 4294967296) (by decide) hda hdb
    rwa [hx.len.1, hy.len.1] at this)
  obtain ⟨M, hM⟩ : ∃ M, max n n' = M := ⟨_, rfl⟩
  have hM1 : n ≤ M := by omega
  have hM2 : n' ≤ M := by omega
  have hM3 : M ≤ 900000 := by omega
  have hcase : (n' ≤ n ∧ M ≤ n) ∨ (n < n' ∧ M ≤ n') := by omega
  rw [hM] at HFT ⊢
  clear hx hy hda hdb hM
  rcases hcase with ⟨hc1, hc2⟩ | ⟨hc1, hc2⟩
  all_goals
    go_enter Try.func61, Try.ntmps61
    go_wp2_with (at_make; refine wpList_make_blk _ rfl _ _ 31 rfl 75 i0 .u32 4 Try.underlying31 hi0 hz0 hz1 hz2 (M + 1) _ rfl rfl (by omega) (by decide) (by omega) ?_; intro w2 hblk hb2)
    refine (adding_any w2).mono ?_
    rintro e w3 ⟨rfl, hw3⟩
    obtain ⟨G, hG⟩ : ∃ G, w.heap.size = G := ⟨_, rfl⟩
    rw [hG] at hblk hb2 ⊢
    obtain ⟨C, hC⟩ : ∃ C, w2.heap.size = C := ⟨_, rfl⟩
    rw [hC]
    have HG := Lib.hid hG
    have HBX := Lib.hid (show Boxed w3 C 83 (.int .u64 ((0 : Nat) : Int)) by rw [← hw3, ← hC]; exact Boxed.new _ _ _)
    have HB3 := Lib.hid (show Blk .u32 w3 G 75 (List.replicate (M + 1) 0) by rw [← hw3]; exact hblk.alloc _)
    have HBL := Lib.hid (show Below G w w3 by rw [← hw3]; exact hb2.alloc (Nat.le_of_lt hblk.lt) _)
    have HGC := Lib.hid (show G < C by rw [← hC]; exact hblk.lt)
    clear hw3 hG hC hblk hb2
    go_wp2_with fail
    go_loopw [18] (fun i wr => ∃ (k q : Nat) (r : List Nat), k ≤ M + 1 ∧ i = .int .i64 k ∧ r.length = k ∧ Dig 4294967296 r ∧ q ≤ 1 ∧ val 4294967296 r + 4294967296 ^ k * q = val 4294967296 (la.take k) + val 4294967296 (lb.take k) ∧ Boxed wr C 83 (.int .u64 (q : Int)) ∧ Blk .u32 wr G 75 (r ++ List.replicate (M + 1 - k) 0) ∧ Below G w wr) (fun i _ => M + 1 - (intOf i).toNat)
    case atStart => exact ⟨0, 0, [], Nat.zero_le _, rfl, rfl, dig_nil, by omega, by simp [val], HBX.out, HB3.out, HBL.out⟩
    case round =>
      obtain ⟨k, q, r, hk, rfl, hrl, hrd, hq, hv, hbx, hblk, hbel⟩ := hrel
      have HRL := Lib.hid hrl
      have HRD := Lib.hid hrd
      have HQ := Lib.hid hq
      have HV := Lib.hid hv
      have HBX := Lib.hid hbx
      have HBK := Lib.hid hblk
      have HBB := Lib.hid hbel
      have HBW := Lib.hid (show Below w.heap.size w wr by rw [HG.out]; exact hbel)
      clear hrl hrd hq hv hbx hblk hbel HB3 HBL
      by_cases hlt : k < M + 1
      · have d1 := dig_getD (B := 4294967296) (by decide) HDA.out k
        have d2 := dig_getD (B := 4294967296) (by decide) HDB.out k
        have HST := Lib.hid (plus_step (x := la.getD k 0) (y := lb.getD k 0) HRL.out HV.out)
        rw [← val_take_succ, ← val_take_succ] at HST
        have HA1 := Lib.hid (wordAt_any la A n c k wr (HX.out.new HBW.out) (by omega) (by omega))
        have HB1 := Lib.hid (wordAt_any lb A' n' c' k wr (HY.out.new HBW.out) (by omega) (by omega))
        have HC1 := Lib.hid (adding1_any (la.getD k 0) (lb.getD k 0) q C wr d1 d2 HQ.out HBX.out)
        have HR := Lib.hid (show List.replicate (M + 1 - k) 0 = 0 :: List.replicate (M + 1 - (k + 1)) 0 by
          rw [show M + 1 - k = (M + 1 - (k + 1)) + 1 by omega]; rfl)
        generalize la.getD k 0 = x at d1 HST HA1 HC1
        generalize lb.getD k 0 = y at d2 HST HB1 HC1
        have HQ' := Lib.hid (show (x + y + q) / 4294967296 ≤ 1 by have := HQ.out; omega)
        have HD' := Lib.hid (show (x + y + q) % 4294967296 < 4294967296 by omega)
        obtain ⟨d, hd⟩ : ∃ d, (x + y + q) % 4294967296 = d := ⟨_, rfl⟩
        obtain ⟨q', hq'⟩ : ∃ d, (x + y + q) / 4294967296 = d := ⟨_, rfl⟩
        rw [hd] at HST HC1 HD'
        rw [hq'] at HST HC1 HQ'
        clear hd hq' d1 d2
        go_wp2_with fail
        refine HA1.out.mono ?_
        rintro e w' ⟨rfl, rfl⟩
        go_wp2_with fail
        refine HB1.out.mono ?_
        rintro e w' ⟨rfl, rfl⟩
        go_wp2_with fail
        refine HC1.out.mono ?_
        rintro e w4 ⟨rfl, hw4⟩
        have hb4 : Blk .u32 w4 G 75 (r ++ (0 :: List.replicate (M + 1 - (k + 1)) 0)) := by
          rw [← hw4, ← HR.out]
          exact HBK.out.far (by have := HGC.out; show G ≠ C; omega) _
        have HX4 := Lib.hid (show Boxed w4 C 83 (.int .u64 (q' : Int)) by rw [← hw4]; exact HBX.out.set _)
        have HL4 := Lib.hid (show Below G w w4 by rw [← hw4]; exact HBB.out.setCell (p := ⟨C, 0, none⟩) (Nat.le_of_lt HGC.out) _)
        have hlen : (r ++ (0 :: List.replicate (M + 1 - (k + 1)) 0)).length = M + 1 := by
          rw [List.length_append, HRL.out, List.length_cons, List.length_replicate]; omega
        have hcell := hb4.cell (i := k) (by omega)
        have hfr := hb4.frozen k
        have HS4 := Lib.hid (hb4.set_ k d)
        have HM4 := Lib.hid (set_at r (List.replicate (M + 1 - (k + 1)) 0) 0 d HRL.out)
        rw [getD_at r _ 0 HRL.out] at hcell
        clear hw4 hb4 hlen
        go_wp2
        go_roundw
        case rel =>
          refine ⟨k + 1, q', r ++ [d], by omega, by go_num, by rw [List.length_append, HRL.out]; rfl, dig_snoc HRD.out HD'.out, HQ'.out, HST.out, ?_, ?_, ?_⟩
          · exact bx_far HX4.out (p := ⟨G, k, none⟩) (by have := HGC.out; show C ≠ G; omega) _
          · have := HS4.out
            rw [HM4.out] at this
            exact this
          · exact HL4.out.setCell (p := ⟨G, k, none⟩) (Nat.le_refl _) _
        case measure => simp [intOf]; omega
      · obtain rfl : k = M + 1 := by omega
        have HDN := Lib.hid (carry_done (B := 4294967296) HRL.out (by decide) HFT.out (by
          have := HV.out
          rw [val_take_all (by have := HN.out; omega), val_take_all (l := lb) (by have := HN'.out; omega)] at this
          exact this))
        go_wp2
        go_ret
        have hb := HBK.out
        rw [Nat.sub_self, List.replicate_zero, List.append_nil] at hb
        exact ⟨G, _, r, rfl, Nat.le_of_eq HG.out, hb, HRL.out, HRD.out, ⟨HDN.out.2, HRL.out⟩, HBW.out⟩
end Go.Proofs.Ytpcliampffeknaa
