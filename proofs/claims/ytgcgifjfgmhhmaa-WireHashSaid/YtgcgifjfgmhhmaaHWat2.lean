/- Contracts of the program's words: the word at a place of a label or of bytes. -/
import Derived.Test.YtgcgifjfgmhhmaaHAux
namespace Go.Proofs.Ytgcgifjfgmhhmaa
open Go.RowKit
theorem ret_num {k : IntKind} {a b : Nat} (h : a = b) : Ending.returned (.int k (a : Int)) = .returned (.int k (b : Int)) := by rw [h]
theorem or_step (l : List UInt8) (k : Nat) (c : UInt8) (hk : k < 8) (h : l[k]? = some c) :
    bits .or .u64 (leN (l.take k) : Int) (IntKind.u64.wrap (IntKind.u64.wrap (c.toNat : Int) * 2 ^ (8 * k))) = (leN (l.take (k + 1)) : Int) := by
  have hc := c.toNat_lt
  rw [IntWalk.u64_in (c.toNat : Int) (by omega)]
  exact u64_or_shl l k c hk h
theorem wordAtS_any (s : ByteArray) (st : Nat) (w : World) (hs : s.size ≤ 1000) (h : st < s.size) :
    Calls Try.prog 69 #[.string s, .int .i64 st] w fun e w' => e = .returned (.int .u64 (wordL (s.data.toList.drop st)).toNat) ∧ w = w' := by
  go_enter Try.func69, Try.ntmps69
  by_cases h8 : st + 8 ≤ s.size
  · go_wp2
    go_loop [5, 12] (fun v i => ∃ k : Nat, k ≤ 8 ∧ i = .int .i64 k ∧ v = .int .u64 (leN ((s.data.toList.drop st).take k) : Nat)) (fun _ i => 8 - (intOf i).toNat)
    case atStart => exact ⟨0, by omega, rfl, rfl⟩
    case round =>
      obtain ⟨k, hk, rfl, rfl⟩ := hrel
      by_cases hlt : k < 8
      · go_wp2
        go_round
        case rel =>
          refine ⟨k + 1, by omega, by go_num, ?_⟩
          rw [or_step _ _ _ (by omega) (by rw [List.getElem?_drop]; exact List.getElem?_eq_getElem (by simp; omega))]
        case measure => simp [intOf]; omega
      · go_wp2
        go_ret
        refine ⟨?_, rfl⟩
        rw [wordL_toNat]
        exact ret_num (by rw [show k = 8 by omega])
  · go_wp2
    go_loop [5, 12] (fun v i => ∃ k : Nat, k ≤ s.size - st ∧ i = .int .i64 k ∧ v = .int .u64 (leN ((s.data.toList.drop st).take k) : Nat)) (fun _ i => s.size - st - (intOf i).toNat)
    case atStart => exact ⟨0, by omega, rfl, rfl⟩
    case round =>
      obtain ⟨k, hk, rfl, rfl⟩ := hrel
      by_cases hlt : k < s.size - st
      · go_wp2
        go_round
        case rel =>
          refine ⟨k + 1, by omega, by go_num, ?_⟩
          rw [or_step _ _ _ (by omega) (by rw [List.getElem?_drop]; exact List.getElem?_eq_getElem (by simp; omega))]
        case measure => simp [intOf]; omega
      · go_wp2
        go_ret
        refine ⟨?_, rfl⟩
        rw [wordL_toNat]
        exact ret_num (by rw [leN_take_all (by rw [List.length_drop]; simp; omega) (by omega)])

theorem wordAtB_any (l : List UInt8) (a : Option Addr) (n c B : Nat) (st : Nat) (w : World) (hn : n = l.length) (hl : n ≤ 1000) (hRd : Rd .u8 w B (.slice a n c) (bI l)) (hst : st < n) :
    Calls Try.prog 65 #[.slice a n c, .int .i64 st] w fun e w' => e = .returned (.int .u64 (wordL (l.drop st)).toNat) ∧ w = w' := by
  have HN := Lib.hid hn
  clear hn
  go_enter Try.func65, Try.ntmps65
  by_cases h8 : st + 8 ≤ n
  · go_wp2
    go_loop [5, 12] (fun v i => ∃ k : Nat, k ≤ 8 ∧ i = .int .i64 k ∧ v = .int .u64 (leN ((l.drop st).take k) : Nat)) (fun _ i => 8 - (intOf i).toNat)
    case atStart => exact ⟨0, by omega, rfl, rfl⟩
    case round =>
      obtain ⟨k, hk, rfl, rfl⟩ := hrel
      by_cases hlt : k < 8
      · have hll : st + k < l.length := by rw [← HN.out]; omega
        obtain ⟨b, off, rfl, _, hcell⟩ := hRd.at_ (j := st + k) (by rw [bI_length]; exact hll)
        rw [bI_get hll] at hcell
        have HS := Lib.hid (or_step (l.drop st) k (l[st + k]'hll) (by omega) (by rw [List.getElem?_drop]; exact List.getElem?_eq_getElem hll))
        generalize (l[st + k]'hll).toNat = c8 at hcell HS
        clear hRd hll
        go_wp2
        go_round
        case rel =>
          exact ⟨k + 1, by omega, by go_num, by rw [HS.out]⟩
        case measure => simp [intOf]; omega
      · go_wp2
        go_ret
        refine ⟨?_, rfl⟩
        rw [wordL_toNat]
        exact ret_num (by rw [show k = 8 by omega])
  · go_wp2
    go_loop [5, 12] (fun v i => ∃ k : Nat, k ≤ n - st ∧ i = .int .i64 k ∧ v = .int .u64 (leN ((l.drop st).take k) : Nat)) (fun _ i => n - st - (intOf i).toNat)
    case atStart => exact ⟨0, by omega, rfl, rfl⟩
    case round =>
      obtain ⟨k, hk, rfl, rfl⟩ := hrel
      by_cases hlt : k < n - st
      · have hll : st + k < l.length := by rw [← HN.out]; omega
        obtain ⟨b, off, rfl, _, hcell⟩ := hRd.at_ (j := st + k) (by rw [bI_length]; exact hll)
        rw [bI_get hll] at hcell
        have HS := Lib.hid (or_step (l.drop st) k (l[st + k]'hll) (by omega) (by rw [List.getElem?_drop]; exact List.getElem?_eq_getElem hll))
        generalize (l[st + k]'hll).toNat = c8 at hcell HS
        clear hRd hll
        go_wp2
        go_round
        case rel =>
          exact ⟨k + 1, by omega, by go_num, by rw [HS.out]⟩
        case measure => simp [intOf]; omega
      · go_wp2
        go_ret
        refine ⟨?_, rfl⟩
        rw [wordL_toNat]
        exact ret_num (by rw [leN_take_all (by rw [List.length_drop]; rw [← HN.out]; omega) (by omega)])
end Go.Proofs.Ytgcgifjfgmhhmaa
