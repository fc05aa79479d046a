/- The walks of HashSum, HashBytes and HashPairs: each law returns true for every input; what lay lies as it lay. -/
import Derived.Test.YtkcokddhmfomgaaHLives
namespace Go.Proofs.Ytkcokddhmfomgaa
open Go.RowKit

theorem src_of_row {k : IntKind} {w : World} {a : Option Addr} {len cap : Nat} {zs : List Int}
    (h : (a = none ∧ len = 0 ∧ cap = 0 ∧ zs = []) ∨ ∃ x, a = some x ∧ len ≤ cap ∧ cap ≤ maxLen ∧ zs.length = cap ∧ (∀ i, i < zs.length → w.cell? (x.add i) = some (.int k (zs.getD i 0))) ∧ ∀ n ∈ zs, (Lit.int k n).wf = true) :
    Src k w (.slice a len cap) (zs.take len) ∧ (zs.take len).length ≤ maxLen ∧ ∀ n ∈ zs.take len, (Lit.int k n).wf = true := by
  rcases h with ⟨rfl, rfl, rfl, rfl⟩ | ⟨x, rfl, h1, h2, h3, h4, h5⟩
  · exact ⟨.inl ⟨rfl, rfl⟩, by simp, fun n hn => by simp at hn⟩
  · have hl : (zs.take len).length = len := by rw [List.length_take]; omega
    refine ⟨.inr ⟨x, cap, by rw [hl], by omega, fun j v hj => ?_⟩, by omega, fun n hn => h5 n (List.mem_of_mem_take hn)⟩
    have hjl : j < zs.length := by have := (List.getElem?_eq_some_iff.1 hj).1; omega
    rw [List.getElem?_take] at hj
    split at hj
    · have := h4 j hjl
      rw [List.getD_eq_getElem?_getD, hj] at this
      exact this
    · cases hj
theorem bytes_of_wf : (zs : List Int) → (∀ n ∈ zs, (Lit.int .u8 n).wf = true) → ∃ l : List UInt8, bI l = zs
  | [], _ => ⟨[], rfl⟩
  | z :: r, h => by
    obtain ⟨l, hl⟩ := bytes_of_wf r (fun n hn => h n (List.mem_cons_of_mem _ hn))
    have hz := h z (List.mem_cons_self ..)
    have hb : 0 ≤ z ∧ z ≤ 255 := by simpa [Lit.wf, IntKind.min, IntKind.max, IntKind.signed, IntKind.bits] using hz
    refine ⟨UInt8.ofNat z.toNat :: l, ?_⟩
    rw [bI, List.map_cons, ← bI, hl]
    congr 1
    rw [UInt8.toNat_ofNat']
    omega
theorem short_size (s : ByteArray) (m : Nat) : (s.extract 0 m).size ≤ m := by
  rw [ByteArray.size_extract]; omega

set_option maxHeartbeats 800000 in
theorem hashSum_walk (a0 : ByteArray) (a1 : Option Addr) (len1 cap1 : Nat) (xs : List Int) (w : World) (w0 : a0.size ≤ maxLen) (h1 : Src .i64 w (.slice a1 len1 cap1) xs) (h2 : xs.length ≤ maxLen) :
    Calls Try.prog 3 #[.string a0, .slice a1 len1 cap1] w fun e w' => e = .returned (.bool true) ∧ Below w.heap.size w w' := by
  go_enter Try.func3, Try.ntmps3
  go_wp2_with fail
  refine (short_any a0 40 w w0 (by decide)).mono ?_
  rintro e w' ⟨rfl, rfl⟩
  have hs := Nat.le_trans (short_size a0 40) (show 40 ≤ 1000 by decide)
  generalize a0.extract 0 40 = s at hs
  go_wp2_with fail
  refine (ints_any _ xs 12 w h1 h2 (by decide)).mono ?_
  rintro e w1 ⟨a2, c2, rfl, hown, hb1⟩
  obtain ⟨ws, hws⟩ : ∃ ws, xs.take 12 = ws := ⟨_, rfl⟩
  rw [hws] at hown ⊢
  have hwl : ws.length ≤ 1000 := by rw [← hws, List.length_take]; omega
  have hr := Lib.hid (Rd.own hown)
  clear hws hown h1 h2
  obtain ⟨n, hn⟩ : ∃ n, ws.length = n := ⟨_, rfl⟩
  rw [hn] at hr hwl ⊢
  have HN := Lib.hid hn
  clear hn
  go_wp2_with fail
  refine (sum_any s ws a2 n c2 w1.heap.size w1 hs HN.out.symm hwl hr.out (Nat.le_refl _)).mono ?_
  rintro e w2 ⟨rfl, hb2⟩
  have B2 : Below w.heap.size w w2 := hb1.trans (hb2.mono hb1.size)
  have hr2 := Lib.hid (hr.out.below hb2 (Nat.le_refl _))
  have hB2 := hb2.size
  go_wp2_with fail
  refine (refsum_any s ws a2 n c2 w1.heap.size w2 hs HN.out.symm (by rw [HN.out]; exact hwl) hr2.out hB2).mono ?_
  rintro e w3 ⟨rfl, hb3⟩
  have B3 : Below w.heap.size w w3 := B2.trans (hb3.mono B2.size)
  generalize ((sumS s.data.toList ws).toNat : Int) = p
  clear B2 hb1 hb2 hb3 hr hr2 hB2
  go_wp2_with fail
  refine (sum_any s [] none 0 0 w3.heap.size w3 hs rfl (by decide) (.inl ⟨rfl, rfl⟩) (Nat.le_refl _)).mono ?_
  rintro e w4 ⟨rfl, hb4⟩
  have B4 : Below w.heap.size w w4 := B3.trans (hb4.mono B3.size)
  go_wp2_with fail
  refine (refsum_any s [] none 0 0 w4.heap.size w4 hs rfl (by decide) (.inl ⟨rfl, rfl⟩) (Nat.le_refl _)).mono ?_
  rintro e w5 ⟨rfl, hb5⟩
  have B5 : Below w.heap.size w w5 := B4.trans (hb5.mono B4.size)
  generalize ((sumS s.data.toList []).toNat : Int) = q
  clear B3 B4 hb4 hb5
  go_wp2_with fail
  refine (lives_any w5).mono ?_
  rintro e w6 ⟨rfl, hb6⟩
  have B6 : Below w.heap.size w w6 := B5.trans (hb6.mono B5.size)
  go_wp2
  go_ret
  exact ⟨rfl, B6⟩
end Go.Proofs.Ytkcokddhmfomgaa
