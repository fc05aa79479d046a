/- Contracts of the program's words: trimmed, copied, compareWords. -/
import Derived.Test.YtpcliampffeknaaNP1
import Derived.Laws.CopyOwn
namespace Go.Proofs.Ytpcliampffeknaa
open Go.RowKit
attribute [local go_sem ↓] Go.wp_at_zero Go.wp_at_succ

theorem trimmed_ok (ok : Nat → Prop) (l : List Nat) (A : Option Addr) (n c : Nat) (w : World) (hd : Dig 4294967296 l) (hl : LO .u32 ok w (.slice A n c) l) (hn : n ≤ 1000000) :
    Calls Try.prog 53 #[.slice A n c] w fun e w' => (∃ k, e = .returned (.slice A k c) ∧ LO .u32 ok w' (.slice A k c) (digs 4294967296 (val 4294967296 l)) ∧ (digs 4294967296 (val 4294967296 l)).length = k ∧ k ≤ n ∧ l.take k = digs 4294967296 (val 4294967296 l)) ∧ w = w' := by
  have HL := Lib.hid hl
  have HD := Lib.hid hd
  have HN := Lib.hid hl.len.1
  have HC := Lib.hid hl.len.2
  clear hl hd
  go_enter Try.func53, Try.ntmps53
  go_wp2_with fail
  go_loop [0] (fun v => ∃ (k : Nat), k ≤ n ∧ v = .slice A k c ∧ LO .u32 ok w v (l.take k) ∧ ∃ j, l = l.take k ++ List.replicate j 0) (fun v => lenOf v)
  case atStart => exact ⟨n, Nat.le_refl _, rfl, by rw [List.take_of_length_le (by rw [HN.out]; exact Nat.le_refl _)]; exact HL.out, ⟨0, by rw [List.take_of_length_le (by rw [HN.out]; exact Nat.le_refl _)]; simp⟩⟩
  case round =>
    obtain ⟨k, hk, rfl, hli, hz⟩ := hrel
    have HLI := Lib.hid hli
    have HZ := Lib.hid hz
    clear hli hz
    rcases Nat.eq_zero_or_pos k with rfl | hp
    · have HNM := Lib.hid (digs_of_zeros (B := 4294967296) (m := l.take 0) (by decide) HD.out HZ.out (norm_take (Nat.zero_le _) (.inl rfl)))
      go_wp2
      go_ret
      exact ⟨⟨0, rfl, by rw [← HNM.out]; exact HLI.out, by rw [← HNM.out]; simp, Nat.zero_le _, HNM.out⟩, rfl⟩
    · obtain ⟨m, rfl⟩ : ∃ m, k = m + 1 := ⟨k - 1, by omega⟩
      obtain ⟨b, off, rfl, hb, hc⟩ := HLI.out.at_ (j := m) (by omega)
      rw [getD_take' (Nat.lt_succ_self m)] at hc
      obtain ⟨x, hx⟩ : ∃ x, l.getD m 0 = x := ⟨_, rfl⟩
      rw [hx] at hc
      have HX := Lib.hid hx
      clear hx
      obtain ⟨z, hz⟩ : ∃ z : Int, (x : Int) = z := ⟨_, rfl⟩
      rw [hz] at hc
      have HZX := Lib.hid hz
      clear hz
      obtain ⟨hsl, hli'⟩ := HLI.out.to_same (P := Try.prog) (ty := 31) Try.underlying31 w32_size m (by omega) (by have := HC.out; omega) _ rfl
      by_cases h0 : z = 0
      · subst h0
        have HZ' := Lib.hid (take_zeros (l := l) (k := m) (by have := HN.out; omega) (by have := HX.out; have := HZX.out; omega) HZ.out)
        have HLI' := Lib.hid hli'
        rw [List.take_take, Nat.min_eq_left (Nat.le_succ m)] at HLI'
        clear hli'
        go_wp2
        go_round
        case rel => exact ⟨m, by omega, rfl, HLI'.out, HZ'.out⟩
        case measure => simp [lenOf]
      · have hz0 : (z == 0) = false := beq_eq_false_iff_ne.2 h0
        have HNM := Lib.hid (digs_of_zeros (B := 4294967296) (m := l.take (m + 1)) (by decide) HD.out HZ.out (norm_take (by have := HN.out; omega) (.inr (by rw [Nat.add_sub_cancel]; have := HX.out; have := HZX.out; omega))))
        clear hli'
        go_wp2
        go_ret
        exact ⟨⟨m + 1, rfl, by rw [← HNM.out]; exact HLI.out, by rw [← HNM.out, List.length_take]; have := HN.out; omega, hk, HNM.out⟩, rfl⟩

/-- copy of as many cells as there are, into a block of zeros: its run, known ahead. -/
theorem run_copy_blk {P : Program} {w : World} {k : IntKind} {dT ty elem t : TypeId} {G n c : Nat} {A : Option Addr} {z l : List Nat} (hu : P.underlying dT = some (.slice elem)) (hs : (P.info? elem).map (·.size) = some 1)
    (hz : Blk k w G t z) (hzl : z.length = n) (hl : LI k w (.slice A n c) l) :
    ∃ w', (Builtin.copy_ #[dT, dT] ty #[.slice (some ⟨G, 0, none⟩) n n, .slice A n c]).run P w = .ok (goInt n) w' ∧ Blk k w' G t l ∧ Below G w w' := by
  have hn := hl.len.1
  rcases Nat.eq_zero_or_pos n with h0 | h0
  · subst h0
    obtain rfl : l = [] := List.eq_nil_of_length_eq_zero hn
    obtain rfl : z = [] := List.eq_nil_of_length_eq_zero hzl
    exact ⟨w, run_copy_none w dT dT ty elem _ _ _ _ _ _ hu hs rfl, hz, Below.refl _ _⟩
  · obtain ⟨ad, rfl, hc⟩ := In.cells hl h0
    have hcl : (vs k (nI l)).length = n := by rw [vs_length, nI_len, hn]
    have hr := run_copy_row (P := P) w dT dT ty elem G 0 n n ad n c _ t (vs k (nI l)) hu hs hz (by rw [hcl]; exact (Nat.min_self n).symm) hc (by simp only [List.size_toArray, vs_length, nI_len]; omega) (vs_one _ _)
    rw [hcl] at hr
    refine ⟨_, hr, ?_, ⟨rfl, rfl, rfl, by simp [World.setRow], fun k hk => setRow_other _ _ _ _ (by omega)⟩⟩
    unfold Blk
    rw [setRow_heap _ _ _ _ _ _ hz]
    congr 3
    rw [List.take_zero, List.nil_append, Nat.zero_add, List.drop_of_length_le (by simp only [vs_length, nI_len]; omega), List.append_nil]
set_option maxRecDepth 100000 in
theorem copied_any (l : List Nat) (A : Option Addr) (n c : Nat) (w : World) (hl : LI .u32 w (.slice A n c) l) (hn : n ≤ 1000000) :
    Calls Try.prog 51 #[.slice A n c] w fun e w' => e = .returned (.slice (some ⟨w.heap.size, 0, none⟩) n n) ∧ Blk .u32 w' w.heap.size 75 l ∧ Below w.heap.size w w' := by
  obtain ⟨i0, hi0, hz0, hz1, hz2⟩ := info_parts w32_info
  have HL := Lib.hid hl
  have HI := Lib.hid (show (Try.prog.info? 75).map (·.size) = some 1 by rw [hi0, ← hz1]; rfl)
  clear hl
  go_enter Try.func51, Try.ntmps51
  go_wp2_with (at_make; refine wpList_make_blk _ rfl _ _ 31 rfl 75 i0 .u32 4 Try.underlying31 hi0 hz0 hz1 hz2 n _ rfl rfl rfl (by decide) (by omega) ?_; intro w2 hblk hb2; obtain ⟨w3, hrun, hb3, hbel3⟩ := run_copy_blk (ty := 3) Try.underlying31 HI.out hblk List.length_replicate (HL.out.new hb2); have HB2 := Lib.hid hb2; have HB3 := Lib.hid hb3; have HBEL := Lib.hid hbel3; clear hblk hb2 hb3 hbel3)
  go_ret
  exact ⟨rfl, HB3.out, HB2.out.trans HBEL.out⟩
end Go.Proofs.Ytpcliampffeknaa
