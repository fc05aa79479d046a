/- The walk of HashOneLabel: the law returns true for every input; what lay lies as it lay. -/
import Derived.Test.YtkcokddhmfomgaaHLaw8
import Derived.Laws.IdiomStrings
namespace Go.Proofs.Ytkcokddhmfomgaa
open Go.RowKit

/-- Bytes made into a string, in every world in which they lie as they lay. -/
theorem conv_back {X : List UInt8} {b n c : Nat} {W : World} (hn : n = X.length) (h : Rd .u8 W W.heap.size (.slice (some ⟨b, 0, none⟩) n c) (bI X)) (sa : ByteArray) (hsa : (⟨X.toArray⟩ : ByteArray) = sa) :
    ∀ w', Below W.heap.size W w' → (convert 30 9 (.slice (some ⟨b, 0, none⟩) n c)).run Try.prog w' = .ok (.string sa) w' := by
  intro w' hb
  subst hn
  subst hsa
  refine run_convert_bytes_back w' 30 9 5 ⟨b, 0, none⟩ c X Try.underlying30 Try.underlying5 Try.underlying9 ?_
  intro j hj
  obtain ⟨b', off, e, _, hc⟩ := (h.below hb (Nat.le_refl _)).at_ (j := j) (by rw [bI_length]; exact hj)
  injection e with e
  injection e with e1 e2
  rw [bI_get hj] at hc
  rw [Go.WideShapes.add_plain, e1, e2]
  exact hc
theorem xor_self_iff (a o : UInt8) : a ^^^ o = a ↔ o = 0 := by
  constructor
  · intro h
    have := congrArg (a ^^^ ·) h
    simpa [← UInt8.xor_assoc] using this
  · intro h; rw [h]; simp
theorem set_eq_iff {X : List UInt8} {k : Nat} {x y : UInt8} (h : X[k]? = some x) : X = X.set k y ↔ y = x := by
  have hk : k < X.length := (List.getElem?_eq_some_iff.1 h).1
  constructor
  · intro e
    have := congrArg (·[k]?) e
    simp only [List.getElem?_set_self hk, h] at this
    injection this with this
    exact this.symm
  · intro e
    subst e
    apply List.ext_getElem?
    intro i
    by_cases hi : k = i
    · subst hi; rw [List.getElem?_set_self hk, h]
    · rw [List.getElem?_set_ne hi]

set_option maxHeartbeats 1600000 in
theorem hashOneLabel_walk (a0 : ByteArray) (a1 : Option Addr) (len1 cap1 : Nat) (xs : List Int) (at0 v : Int) (w : World) (w0 : a0.size ≤ maxLen) (h1 : Src .i64 w (.slice a1 len1 cap1) xs) (h2 : xs.length ≤ maxLen) (wat : (Lit.int .i64 at0).wf = true) (wv : (Lit.int .u8 v).wf = true) :
    Calls Try.prog 7 #[.string a0, .slice a1 len1 cap1, .int .i64 at0, .int .u8 v] w fun e w' => e = .returned (.bool true) ∧ Below w.heap.size w w' := by
  obtain ⟨o, ho⟩ := byte_of_wf wv
  obtain ⟨ws, hws⟩ : ∃ ws, xs.take 6 = ws := ⟨_, rfl⟩
  have hwl : ws.length ≤ 1000 := by rw [← hws, List.length_take]; omega
  obtain ⟨m, hm⟩ : ∃ m, ws.length = m := ⟨_, rfl⟩
  rw [hm] at hwl
  have HWS := Lib.hid hws
  have HM := Lib.hid hm
  have HAT := Lib.hid wat
  have HO := Lib.hid ho
  clear hws hm wat wv ho
  go_enter Try.func7, Try.ntmps7
  go_wp2_with fail
  refine (ints_any _ xs 6 w h1 h2 (by decide)).mono ?_
  rintro e w1 ⟨a2, c2, rfl, hown, b1⟩
  rw [HWS.out, HM.out] at hown ⊢
  have RW := Lib.hid (Rd.own hown)
  clear hown h1 h2
  go_wp2_with fail
  refine (short_any a0 29 w1 w0 (by decide)).mono ?_
  rintro e w' ⟨rfl, rfl⟩
  have hs := short_size a0 29
  generalize a0.extract 0 29 = s at hs
  obtain ⟨sx, hsx⟩ : ∃ sx, s ++ (⟨#[120]⟩ : ByteArray) = sx := ⟨_, rfl⟩
  obtain ⟨X, hX⟩ : ∃ X, sx.data.toList = X := ⟨_, rfl⟩
  have hszx : sx.size = s.size + 1 := by rw [← hsx, ByteArray.size_append]; rfl
  have hXl : X.length = s.size + 1 := by rw [← hX, ← hszx]; simp
  obtain ⟨W1, cb, hconv, hbc, hrc⟩ := conv_bytes (P := Try.prog) w1 9 30 5 sx Try.underlying9 Try.underlying30 Try.underlying5
  rw [hX] at hrc
  obtain ⟨n, hn⟩ : ∃ n, s.size + 1 = n := ⟨_, rfl⟩
  rw [hszx, hn] at hconv hrc
  rw [hn] at hXl
  have hn1 : 1 ≤ n := by omega
  have hn2 : n ≤ 30 := by omega
  have HXL := Lib.hid hXl
  have HRC := Lib.hid hrc
  have RW1 := Lib.hid (RW.out.below hbc (Nat.le_refl _))
  have B1 : Below w.heap.size w W1 := b1.trans (hbc.mono b1.size)
  have z1 : w1.heap.size ≤ W1.heap.size := hbc.size
  have hgl : w1.heap.size < W1.heap.size := by
    obtain ⟨b', off, e, hlt, _⟩ := hrc.at_ (j := 0) (by rw [bI_length, hXl]; omega)
    injection e with e
    injection e with e1 e2
    omega
  clear hX hszx hXl hn hrc hbc b1 RW
  go_wp2_with fail
  refine (few_any _ (bI X) 30 W1 HRC.out.src (by rw [bI_length, HXL.out]; unfold maxLen; omega) (by decide)).mono ?_
  rintro e w3 ⟨a4, c4, rfl, hown4, hb3⟩
  rw [List.take_of_length_le (by rw [bI_length, HXL.out]; exact hn2), bI_length, HXL.out] at hown4 ⊢
  obtain ⟨n', hn'⟩ : ∃ n', n = n' + 1 := ⟨n - 1, by omega⟩
  obtain ⟨g4, c4', e4⟩ := ownsRow_succ (k := n') (by rw [← hn']; exact hown4)
  rw [← hn'] at e4
  injection e4 with e41 e42 e43
  subst e41
  subst e43
  have R3 := Lib.hid (HRC.out.below hb3 (Nat.le_refl _))
  have RW3 := Lib.hid (RW1.out.below hb3 z1)
  have b3 : Below w.heap.size w w3 := B1.trans (hb3.mono B1.size)
  have z3 : W1.heap.size ≤ w3.heap.size := hb3.size
  have z2 : w.heap.size ≤ W1.heap.size := B1.size
  clear hn' HRC RW1 B1 hb3 hconv hsx
  go_wp2_with fail
  refine (around_any at0 n w3 hn1 (by omega) HAT.out).mono ?_
  rintro e w' ⟨rfl, rfl⟩
  have hk := aroundI_lt at0 hn1
  generalize aroundI at0 n = k at hk
  have hkX : k < X.length := by rw [HXL.out]; exact hk
  obtain ⟨xk, hxk⟩ : ∃ c, X[k]? = some c := ⟨_, List.getElem?_eq_getElem hkX⟩
  have hcell1 : w3.cell? ⟨g4, k, none⟩ = some (.int .u8 (xk.toNat : Int)) := by
    rw [hown4.cellAt k (by omega)]
    exact vs_get (by rw [bI, List.getElem?_map, hxk]; rfl)
  have hfr1 := hown4.frozenAt k
  have hg4 : W1.heap.size ≤ g4 := own_block_ge hown4 g4 rfl
  have hxor1 : bits .xor .u8 (xk.toNat : Int) v = ((xk ^^^ o).toNat : Int) := by rw [HO.out]; exact xor_byte xk o
  have HEQV := Lib.hid (show decide (X = X.set k (xk ^^^ o)) = (v == 0) by
    have h1 := set_eq_iff (y := xk ^^^ o) hxk
    have h2 := xor_self_iff xk o
    by_cases e : o = 0
    · rw [decide_eq_true (h1.2 (h2.2 e)), HO.out, e]; rfl
    · rw [decide_eq_false (fun h => e (h2.1 (h1.1 h))), HO.out]
      symm
      rw [beq_eq_false_iff_ne]
      intro h
      exact e (UInt8.toNat_inj.1 (by simpa using h)))
  generalize xk ^^^ o = y1 at hxor1 HEQV
  obtain ⟨hst, hgr⟩ := hown4.stored k (.int .u8 (y1.toNat : Int))
  obtain ⟨W, hW⟩ : ∃ W, w3.setCell ⟨g4, k, none⟩ (.int .u8 (y1.toNat : Int)) = W := ⟨_, rfl⟩
  have hcut : Below W1.heap.size w3 W := by rw [← hW]; exact (Below.refl _ _).setCell (p := ⟨g4, k, none⟩) hg4 _
  have bW : Below w.heap.size w W := b3.trans (hcut.mono z2)
  rw [hW, vs_set, bI_set] at hst
  obtain ⟨Y, hY⟩ : ∃ Y, X.set k y1 = Y := ⟨_, rfl⟩
  rw [hY] at hst HEQV
  have HYL := Lib.hid (show n = Y.length by rw [← hY, List.length_set]; exact HXL.out.symm)
  have HSS := Lib.hid (sumS_label X Y ws (j := k / 8) (by rw [← hY, List.length_set]) (by omega) (fun i hi => by rw [← hY, List.getElem?_set_ne (fun e => hi (by rw [e]))]))
  have zW : W1.heap.size ≤ W.heap.size := Nat.le_trans z3 hcut.size
  have RX : Rd .u8 W W.heap.size (.slice (some ⟨w1.heap.size, 0, none⟩) n cb) (bI X) := (R3.out.below hcut (Nat.le_refl _)).mono zW
  have RY : Rd .u8 W W.heap.size (.slice (some ⟨g4, 0, none⟩) n c4) (bI Y) := Rd.own hst
  have RWW : Rd .i64 W W.heap.size (.slice a2 m c2) ws := (RW3.out.below hcut z1).mono (Nat.le_trans z1 zW)
  obtain ⟨sa, hsa⟩ : ∃ sa : ByteArray, (⟨X.toArray⟩ : ByteArray) = sa := ⟨_, rfl⟩
  obtain ⟨sb, hsb⟩ : ∃ sb : ByteArray, (⟨Y.toArray⟩ : ByteArray) = sb := ⟨_, rfl⟩
  have hcA := conv_back HXL.out.symm RX sa hsa
  have hcB := conv_back HYL.out RY sb hsb
  have hda : sa.data.toList = X := by rw [← hsa]
  have hdb : sb.data.toList = Y := by rw [← hsb]
  have hza : sa.size ≤ 1000 := by rw [← hsa]; show X.toArray.size ≤ 1000; simp; have := HXL.out; omega
  have hzb : sb.size ≤ 1000 := by rw [← hsb]; show Y.toArray.size ≤ 1000; simp; have := HYL.out; omega
  obtain ⟨p, hp⟩ : ∃ p, toI (sumS X ws) = p := ⟨_, rfl⟩
  obtain ⟨q, hq⟩ : ∃ q, toI (sumS Y ws) = q := ⟨_, rfl⟩
  have hpq : (p == q) = (v == 0) := by rw [← hp, ← hq, HSS.out, HEQV.out]
  have KA : Hid (∀ w', Below W.heap.size W w' → Calls Try.prog 13 #[.string sa, .slice a2 m c2] w' fun e w'' => e = .returned (.int .u64 p) ∧ Below W.heap.size W w'') :=
    Lib.hid (fun w' hb => (sum_any sa ws _ m c2 W.heap.size w' hza HM.out.symm hwl (RWW.below hb (Nat.le_refl _)) hb.size).mono (fun e w'' ⟨he, h⟩ => ⟨by rw [he, hda, ← hp]; rfl, hb.trans (h.mono hb.size)⟩))
  have KB : Hid (∀ w', Below W.heap.size W w' → Calls Try.prog 13 #[.string sb, .slice a2 m c2] w' fun e w'' => e = .returned (.int .u64 q) ∧ Below W.heap.size W w'') :=
    Lib.hid (fun w' hb => (sum_any sb ws _ m c2 W.heap.size w' hzb HM.out.symm hwl (RWW.below hb (Nat.le_refl _)) hb.size).mono (fun e w'' ⟨he, h⟩ => ⟨by rw [he, hdb, ← hq]; rfl, hb.trans (h.mono hb.size)⟩))
  have KL : Hid (∀ w', Below W.heap.size W w' → Calls Try.prog 15 #[] w' fun e w'' => e = .returned (.bool true) ∧ Below W.heap.size W w'') :=
    Lib.hid (fun w' hb => (lives_any w').mono (fun e w'' ⟨he, h⟩ => ⟨he, hb.trans (h.mono hb.size)⟩))
  have bR := Below.refl W.heap.size W
  obtain ⟨same, hsame⟩ : ∃ same, (v == 0) = same := ⟨_, rfl⟩
  rw [hsame] at hpq
  have hss : (same == same) = true := by cases same <;> rfl
  clear hp hq HSS HEQV RX RY RWW hst hgr hown4 b3 hcut zW hsa hsb hda hdb hza hzb hY HYL HXL hkX hxk hg4 z1 z2 z3 R3 RW3 hgl HO HAT HWS
  go_wp2_with fail
  go_region_held3 (fun w' => Below W.heap.size W w') (first | assumption | exact bR.drew | go_keep)
    (first | (go_at_call_of 13 sa; refine (KA.out _ ?_).mono ?_; assumption; rintro e w' ⟨rfl, hc'⟩) | (go_at_call_of 13 sb; refine (KB.out _ ?_).mono ?_; assumption; rintro e w' ⟨rfl, hc'⟩) | (go_at_call 15; refine (KL.out _ ?_).mono ?_; assumption; rintro e w' ⟨rfl, hc'⟩))
  all_goals (rename_i hlast)
  all_goals (have hend := bW.trans (hlast.mono bW.size))
  all_goals go_wp2
  all_goals go_ret
  all_goals exact ⟨rfl, hend⟩
end Go.Proofs.Ytkcokddhmfomgaa
