/- The walks of HashBytes and HashArguments: each law returns true for every input; what lay lies as it lay. -/
import Derived.Test.YtkcokddhmfomgaaHLaw2
import Derived.Test.YtkcokddhmfomgaaHSame
namespace Go.Proofs.Ytkcokddhmfomgaa
open Go.RowKit

set_option maxHeartbeats 800000 in
theorem hashBytes_walk (a0 : ByteArray) (a1 : Option Addr) (len1 cap1 : Nat) (xs : List Int) (x y : Int) (w : World) (w0 : a0.size ≤ maxLen) (h1 : Src .u8 w (.slice a1 len1 cap1) xs) (h2 : xs.length ≤ maxLen) (h3 : ∀ n ∈ xs, (Lit.int .u8 n).wf = true) (wx : (Lit.int .u64 x).wf = true) (wy : (Lit.int .u64 y).wf = true) :
    Calls Try.prog 4 #[.string a0, .slice a1 len1 cap1, .int .u64 x, .int .u64 y] w fun e w' => e = .returned (.bool true) ∧ Below w.heap.size w w' := by
  obtain ⟨u, hu⟩ := word_of_wf wx
  obtain ⟨v, hv⟩ := word_of_wf wy
  subst hu
  subst hv
  obtain ⟨bs, hbs⟩ := bytes_of_wf (xs.take 60) (fun n hn => h3 n (List.mem_of_mem_take hn))
  have hbl : bs.length ≤ 60 := by rw [← bI_length, hbs, List.length_take]; omega
  clear wx wy h3
  go_enter Try.func4, Try.ntmps4
  go_wp2_with fail
  refine (short_any a0 20 w w0 (by decide)).mono ?_
  rintro e w' ⟨rfl, rfl⟩
  have hs := Nat.le_trans (short_size a0 20) (show 20 ≤ 1000 by decide)
  generalize a0.extract 0 20 = s at hs
  go_wp2_with fail
  refine (few_any _ xs 60 w h1 h2 (by decide)).mono ?_
  rintro e w1 ⟨a2, c2, rfl, hown, hb1⟩
  rw [← hbs, bI_length] at hown ⊢
  have hr := Lib.hid (Rd.own hown)
  obtain ⟨n, hn⟩ : ∃ n, bs.length = n := ⟨_, rfl⟩
  rw [hn] at hr hbl ⊢
  have HN := Lib.hid hn
  have hn1 := Nat.le_trans hbl (show 60 ≤ 1000 by decide)
  clear hn hbs hown h1 h2 hbl
  go_wp2_with fail
  refine (bytes_any s bs a2 n c2 w1.heap.size w1 hs HN.out.symm hn1 hr.out (Nat.le_refl _)).mono ?_
  rintro e w2 ⟨rfl, hb2⟩
  have B2 : Below w.heap.size w w2 := hb1.trans (hb2.mono hb1.size)
  have hr2 := Lib.hid (hr.out.below hb2 (Nat.le_refl _))
  have hB2 := hb2.size
  go_wp2_with fail
  refine (refbytes_any s bs a2 n c2 w1.heap.size w2 hs HN.out.symm (by rw [HN.out]; exact hn1) hr2.out hB2).mono ?_
  rintro e w3 ⟨rfl, hb3⟩
  have B3 : Below w.heap.size w w3 := B2.trans (hb3.mono B2.size)
  generalize ((bytesS s.data.toList bs).toNat : Int) = p
  clear B2 hb1 hb2 hb3 hr hr2 hB2
  go_wp2_with fail
  refine (pair_any u v _ _ w3 rfl rfl).mono ?_
  rintro e w4 ⟨rfl, hb4⟩
  have B4 : Below w.heap.size w w4 := B3.trans (hb4.mono B3.size)
  go_wp2_with fail
  refine (refpair_any u v w4).mono ?_
  rintro e w5 ⟨rfl, hb5⟩
  have B5 : Below w.heap.size w w5 := B4.trans (hb5.mono B4.size)
  generalize ((pairS u v).toNat : Int) = q
  clear B3 B4 hb4 hb5
  go_wp2_with fail
  refine (lives_any w5).mono ?_
  rintro e w6 ⟨rfl, hb6⟩
  have B6 : Below w.heap.size w w6 := B5.trans (hb6.mono B5.size)
  go_wp2
  go_ret
  exact ⟨rfl, B6⟩

theorem src_below {k : IntKind} {w w' : World} {sv : Value} {xs : List Int} (h : Src k w sv xs) (hb : Below w.heap.size w w') : Src k w' sv xs := by
  rcases h with h | ⟨ad, c, h1, h2, h3⟩
  · exact .inl h
  · exact .inr ⟨ad, c, h1, h2, fun j v hj => (hb.cell (World.block_lt_of_cell? w _ (h3 j v hj))).trans (h3 j v hj)⟩

set_option maxHeartbeats 1600000 in
theorem hashArguments_walk (a0 : Option Addr) (len0 cap0 : Nat) (xs : List Int) (a1 : Option Addr) (len1 cap1 : Nat) (ys : List Int) (w : World) (h1 : Src .i64 w (.slice a0 len0 cap0) xs) (h2 : xs.length ≤ maxLen)
    (k1 : Src .u8 w (.slice a1 len1 cap1) ys) (k2 : ys.length ≤ maxLen) (k3 : ∀ n ∈ ys, (Lit.int .u8 n).wf = true) :
    Calls Try.prog 10 #[.slice a0 len0 cap0, .slice a1 len1 cap1] w fun e w' => e = .returned (.bool true) ∧ Below w.heap.size w w' := by
  obtain ⟨bs, hbs⟩ := bytes_of_wf (ys.take 30) (fun n hn => k3 n (List.mem_of_mem_take hn))
  have hbl : bs.length ≤ 1000 := by rw [← bI_length, hbs, List.length_take]; omega
  obtain ⟨ws, hws⟩ : ∃ ws, xs.take 10 = ws := ⟨_, rfl⟩
  have hwl : ws.length ≤ 1000 := by rw [← hws, List.length_take]; omega
  have HBS := Lib.hid hbs
  have HWS := Lib.hid hws
  have H1 := Lib.hid h1
  have K1 := Lib.hid k1
  clear hbs hws h1 k1 k3
  obtain ⟨n, hn⟩ : ∃ n, ws.length = n := ⟨_, rfl⟩
  obtain ⟨m, hm⟩ : ∃ m, bs.length = m := ⟨_, rfl⟩
  rw [hn] at hwl
  rw [hm] at hbl
  have HN := Lib.hid hn
  have HM := Lib.hid hm
  clear hn hm
  go_enter Try.func10, Try.ntmps10
  go_wp2_with fail
  refine (ints_any _ xs 10 w H1.out h2 (by decide)).mono ?_
  rintro e w1 ⟨a2, c2, rfl, hown, b1⟩
  rw [HWS.out, HN.out] at hown ⊢
  have R1 := Lib.hid (Rd.own hown)
  clear hown
  go_wp2_with fail
  refine (few_any _ ys 30 w1 (src_below K1.out b1) k2 (by decide)).mono ?_
  rintro e w2 ⟨a3, c3, rfl, hown, hb2⟩
  rw [← HBS.out, bI_length, HM.out] at hown ⊢
  have S1 := Lib.hid (Rd.own hown)
  have R2 := Lib.hid (R1.out.below hb2 (Nat.le_refl _))
  have b2 : Below w.heap.size w w2 := b1.trans (hb2.mono b1.size)
  have z1 : w1.heap.size ≤ w2.heap.size := hb2.size
  clear hown R1
  go_wp2_with fail
  refine (sum_any ⟨#[115, 97, 109, 101]⟩ ws a2 n c2 w1.heap.size w2 (by decide) HN.out.symm hwl R2.out z1).mono ?_
  rintro e w3 ⟨rfl, hb3⟩
  have R3 := Lib.hid (R2.out.below hb3 z1)
  have S3 := Lib.hid (S1.out.below hb3 (Nat.le_refl _))
  have b3 : Below w.heap.size w w3 := b2.trans (hb3.mono b2.size)
  have z2 : w1.heap.size ≤ w3.heap.size := Nat.le_trans z1 hb3.size
  have y2 : w2.heap.size ≤ w3.heap.size := hb3.size
  obtain ⟨p, hp⟩ : ∃ p, ((sumS (ByteArray.mk #[115, 97, 109, 101]).data.toList ws).toNat : Int) = p := ⟨_, rfl⟩
  rw [hp]
  have P := Lib.hid hp
  clear hp R2 S1 hb3 hb2 b2 b1
  go_wp2_with fail
  refine (bytes_any ⟨#[115, 97, 109, 101]⟩ bs a3 m c3 w2.heap.size w3 (by decide) HM.out.symm hbl S3.out y2).mono ?_
  rintro e w4 ⟨rfl, hb4⟩
  have R4 := Lib.hid (R3.out.below hb4 z2)
  have S4 := Lib.hid (S3.out.below hb4 y2)
  have b4 : Below w.heap.size w w4 := b3.trans (hb4.mono b3.size)
  have z4 : w1.heap.size ≤ w4.heap.size := Nat.le_trans z2 hb4.size
  have y4 : w2.heap.size ≤ w4.heap.size := Nat.le_trans y2 hb4.size
  obtain ⟨q, hq⟩ : ∃ p, ((bytesS (ByteArray.mk #[115, 97, 109, 101]).data.toList bs).toNat : Int) = p := ⟨_, rfl⟩
  rw [hq]
  have Q := Lib.hid hq
  clear hq R3 S3 hb4 b3 z1 z2 y2
  go_wp2_with fail
  refine (ints_any _ xs 10 w4 (src_below H1.out b4) h2 (by decide)).mono ?_
  rintro e w5 ⟨a5, c5, rfl, hown, hb5⟩
  rw [HWS.out, HN.out] at hown ⊢
  have T5 := Lib.hid (Rd.own hown)
  have R5 := Lib.hid (R4.out.below hb5 z4)
  have S5 := Lib.hid (S4.out.below hb5 y4)
  have b5 : Below w.heap.size w w5 := b4.trans (hb5.mono b4.size)
  have z5 : w1.heap.size ≤ w5.heap.size := Nat.le_trans z4 hb5.size
  have y5 : w2.heap.size ≤ w5.heap.size := Nat.le_trans y4 hb5.size
  clear hown R4 S4 hb5 b4 z4 y4
  go_wp2_with fail
  refine (sameInts_any ws ws a2 a5 n n c2 c5 w1.heap.size w5.heap.size true w5 HN.out.symm HN.out.symm hwl hwl R5.out T5.out z5 (Nat.le_refl _) (by simp)).mono ?_
  rintro e w6 ⟨rfl, hb6⟩
  have R6 := Lib.hid (R5.out.below hb6 z5)
  have S6 := Lib.hid (S5.out.below hb6 y5)
  have b6 : Below w.heap.size w w6 := b5.trans (hb6.mono b5.size)
  have z6 : w1.heap.size ≤ w6.heap.size := Nat.le_trans z5 hb6.size
  have y6 : w2.heap.size ≤ w6.heap.size := Nat.le_trans y5 hb6.size
  clear R5 S5 T5 hb6 b5 z5 y5
  go_wp2_with fail
  refine (few_any _ ys 30 w6 (src_below K1.out b6) k2 (by decide)).mono ?_
  rintro e w7 ⟨a7, c7, rfl, hown, hb7⟩
  rw [← HBS.out, bI_length, HM.out] at hown ⊢
  have T7 := Lib.hid (Rd.own hown)
  have R7 := Lib.hid (R6.out.below hb7 z6)
  have S7 := Lib.hid (S6.out.below hb7 y6)
  have b7 : Below w.heap.size w w7 := b6.trans (hb7.mono b6.size)
  have z7 : w1.heap.size ≤ w7.heap.size := Nat.le_trans z6 hb7.size
  have y7 : w2.heap.size ≤ w7.heap.size := Nat.le_trans y6 hb7.size
  clear hown R6 S6 hb7 b6 z6 y6
  go_wp2_with fail
  refine (sameBytes_any (bI bs) (bI bs) a3 a7 m m c3 c7 w2.heap.size w7.heap.size true w7 (by rw [bI_length]; exact HM.out.symm) (by rw [bI_length]; exact HM.out.symm) hbl hbl S7.out T7.out y7 (Nat.le_refl _) (by simp)).mono ?_
  rintro e w8 ⟨rfl, hb8⟩
  have R8 := Lib.hid (R7.out.below hb8 z7)
  have S8 := Lib.hid (S7.out.below hb8 y7)
  have b8 : Below w.heap.size w w8 := b7.trans (hb8.mono b7.size)
  have z8 : w1.heap.size ≤ w8.heap.size := Nat.le_trans z7 hb8.size
  have y8 : w2.heap.size ≤ w8.heap.size := Nat.le_trans y7 hb8.size
  clear R7 S7 T7 hb8 b7 z7 y7
  go_wp2_with fail
  refine (sum_any ⟨#[115, 97, 109, 101]⟩ ws a2 n c2 w1.heap.size w8 (by decide) HN.out.symm hwl R8.out z8).mono ?_
  rintro e w9 ⟨rfl, hb9⟩
  have S9 := Lib.hid (S8.out.below hb9 y8)
  have b9 : Below w.heap.size w w9 := b8.trans (hb9.mono b8.size)
  have y9 : w2.heap.size ≤ w9.heap.size := Nat.le_trans y8 hb9.size
  rw [P.out]
  clear P R8 S8 hb9 b8 z8 y8
  go_wp2_with fail
  refine (bytes_any ⟨#[115, 97, 109, 101]⟩ bs a3 m c3 w2.heap.size w9 (by decide) HM.out.symm hbl S9.out y9).mono ?_
  rintro e w10 ⟨rfl, hb10⟩
  have b10 : Below w.heap.size w w10 := b9.trans (hb10.mono b9.size)
  rw [Q.out]
  clear Q S9 hb10 b9 y9
  go_wp2_with fail
  refine (lives_any w10).mono ?_
  rintro e w11 ⟨rfl, hb11⟩
  have b11 : Below w.heap.size w w11 := b10.trans (hb11.mono b10.size)
  go_wp2
  go_ret
  exact ⟨rfl, b11⟩
end Go.Proofs.Ytkcokddhmfomgaa
