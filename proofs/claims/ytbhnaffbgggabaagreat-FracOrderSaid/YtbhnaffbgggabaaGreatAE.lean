/- Contracts of strings.Cut at a slash, and of Sign and Parse of the program's fractions. Conditions: as each statement has them. -/
import Derived.Test.YtbhnaffbgggabaaGreatAK
import Derived.Lib.Strings
import Derived.Lib.Slices
import Derived.Lib.Walk
import Derived.Lib.Bytealg
import Derived.Shelf.RegionOpenPlain
namespace Go.Proofs.YtbhnaffbgggabaaGreat
open Go.RowKit
attribute [local go_sem ↓] Go.wp_at_zero Go.wp_at_succ
/-- The place of the first slash. -/
theorem ix_no {l : List UInt8} (h : (47 : UInt8) ∉ l) : Lib.indexByte l 47 = -1 := by
 induction l with
 | nil => rfl
 | cons x l ih =>
  have h1 : ¬ x = 47 := fun e => h (by rw [e]; exact List.mem_cons_self)
  have h2 := ih (fun m => h (List.mem_cons_of_mem _ m))
  simp [Lib.indexByte, h1, h2]
theorem ix_yes {a b : List UInt8} (h : (47 : UInt8) ∉ a) : Lib.indexByte (a ++ 47 :: b) 47 = (a.length : Int) := by
 induction a with
 | nil => simp [Lib.indexByte]
 | cons x l ih =>
  have h1 : ¬ x = 47 := fun e => h (by rw [e]; exact List.mem_cons_self)
  have h2 := ih (fun m => h (List.mem_cons_of_mem _ m))
  rw [List.cons_append]
  simp only [Lib.indexByte, h2]
  simp [h1]
theorem slash_cases (l : List UInt8) : (47 : UInt8) ∉ l ∨ ∃ a b, l = a ++ 47 :: b ∧ (47 : UInt8) ∉ a := by
 induction l with
 | nil => exact .inl (by simp)
 | cons x l ih =>
  by_cases h : x = 47
  ·exact .inr ⟨[], l, by rw [h]; rfl, by simp⟩
  ·rcases ih with h1 | ⟨a, b, rfl, h1⟩
   ·exact .inl (fun m => by rcases List.mem_cons.1 m with e | e; exact h e.symm; exact h1 e)
   ·exact .inr ⟨x :: a, b, rfl, fun m => by rcases List.mem_cons.1 m with e | e; exact h e.symm; exact h1 e⟩
set_option maxHeartbeats 1000000 in
set_option maxRecDepth 100000 in
theorem sl_indexByte (s : ByteArray) (c : Int) (w : World) :
  Calls Tryz.prog 242 #[.string s, .int .u8 c] w fun e w' => e = .returned (.int .i64 (Lib.indexByte s.data.toList c.toNat.toUInt8)) ∧ w = w' := by
 go_enter Tryz.func242, Tryz.ntmps242
 go_wp2
 rw [run_callFunc_extern Tryz.func250 (by kernel_rfl) (by kernel_rfl) (by kernel_rfl) (e := Extern.BytealgIndexByte.indexByte) (by kernel_rfl), Lib.run_indexByteString]
 simp only [Result.andThen]
 rw [Oper.upon_value]
 go_wp2
 go_ret
 exact ⟨rfl, rfl⟩
set_option maxHeartbeats 1000000 in
set_option maxRecDepth 100000 in
theorem sl_index (l : List UInt8) (hs : l.length ≤ 1000000) (i : Int) (hi : Lib.indexByte l 47 = i) (w : World) :
  Calls Tryz.prog 224 #[.string ⟨l.toArray⟩, .string ⟨#[47]⟩] w fun e w' => e = .returned (.int .i64 i) ∧ w = w' := by
 by_cases hl : l = [47]
 ·subst hl
  obtain rfl : i = 0 := by rw [← hi]; rfl
  go_enter Tryz.func224, Tryz.ntmps224
  go_wp2
  go_ret
  exact ⟨rfl, rfl⟩
 ·have HI := hJ hi
  clear hi
  have hne : ([47] == l) = false := beq_eq_false_iff_ne.2 (fun e => hl e.symm)
  clear hl
  go_enter Tryz.func224, Tryz.ntmps224
  go_wp2_with fail
  refine (sl_indexByte ⟨l.toArray⟩ 47 w).mono ?_
  rintro e w1 ⟨rfl, rfl⟩
  go_wp2
  go_ret
  exact ⟨by rw [← HI.out]; rfl, rfl⟩
/-- What strings.Cut returns for a text without a slash. -/
def RetCt (a b : List UInt8) (f : Bool) (w : World) (e : Ending) (w' : World) : Prop := e = .returned (.tuple #[.string ⟨a.toArray⟩, .string ⟨b.toArray⟩, .bool f]) ∧ Below w.heap.size w w'
theorem ext_a (a b : List UInt8) : (ByteArray.mk (a ++ 47 :: b).toArray).extract 0 a.length = ⟨a.toArray⟩ := by
 apply ByteArray.ext
 rw [ByteArray.data_extract]
 simp
theorem ext_b (a b : List UInt8) : (ByteArray.mk (a ++ 47 :: b).toArray).extract (a.length + 1) (ByteArray.mk (a ++ 47 :: b).toArray).size = ⟨b.toArray⟩ := by
 apply ByteArray.ext
 rw [ByteArray.data_extract]
 have e1 : (ByteArray.mk (a ++ 47 :: b).toArray).size = a.length + 1 + b.length := by
  show (a ++ 47 :: b).toArray.size = _
  simp
  omega
 rw [e1]
 apply Array.ext'
 simp [List.extract_eq_take_drop]
set_option maxHeartbeats 1000000 in
set_option maxRecDepth 100000 in
theorem slcut_no (l : List UInt8) (hs : l.length ≤ 1000000) (h : (47 : UInt8) ∉ l) (w : World) :
  Calls Tryz.prog 181 #[.string ⟨l.toArray⟩, .string ⟨#[47]⟩] w (RetCt l [] false w) := by
 have HI := hJ (ix_no h)
 have HS := hJ hs
 clear hs h
 go_enter Tryz.func181, Tryz.ntmps181
 go_wp2_with fail
 refine (sl_index l HS.out (-1) HI.out w).mono ?_
 rintro e w1 ⟨rfl, rfl⟩
 go_wp2
 go_ret3
 exact ⟨rfl, Below.refl _ _⟩
set_option maxHeartbeats 1000000 in
set_option maxRecDepth 100000 in
theorem slcut_yes (a b : List UInt8) (hs : (a ++ 47 :: b).length ≤ 1000000) (h : (47 : UInt8) ∉ a) (w : World) :
  Calls Tryz.prog 181 #[.string ⟨(a ++ 47 :: b).toArray⟩, .string ⟨#[47]⟩] w (RetCt a b true w) := by
 have HI := hJ (ix_yes (b := b) h)
 have HS := hJ hs
 have HA := hJ (ext_a a b)
 have HB := hJ (ext_b a b)
 have hz : (ByteArray.mk (a ++ 47 :: b).toArray).size = (a ++ 47 :: b).length := rfl
 obtain ⟨k, hk⟩ : ∃ k, a.length = k := ⟨_, rfl⟩
 have hl : (a ++ 47 :: b).length = k + 1 + b.length := by rw [← hk]; simp; omega
 have HC := hJ (fun (w : World) => sl_index (a ++ 47 :: b) hs (k : Int) (by rw [← hk]; exact HI.out) w)
 rw [hk] at HA HB
 clear HI h hk
 obtain ⟨D, hD⟩ : ∃ D, ByteArray.mk (a ++ 47 :: b).toArray = D := ⟨_, rfl⟩
 rw [hD] at HA HB hz ⊢
 rw [hl] at hz
 have HC2 := hJ (fun (w : World) => (show Calls Tryz.prog 224 #[.string D, .string ⟨#[47]⟩] w _ by rw [← hD]; exact HC.out w))
 have hs2 : D.size ≤ 1000001 := by rw [hl] at hs; omega
 clear HC hD hl hs
 have c0 : (0 : Int) ≤ (k : Int) := by omega
 have c1 : (k : Int) ≤ (D.size : Int) := by omega
 have c2 : (0 : Int) ≤ (k : Int) + 1 := by omega
 have c3 : (k : Int) + 1 ≤ (D.size : Int) := by omega
 have c4 : k ≤ D.size := by omega
 have HZ := hJ hz
 clear hz
 go_enter Tryz.func181, Tryz.ntmps181
 go_wp2_with fail
 refine (HC2.out w).mono ?_
 rintro e w1 ⟨rfl, rfl⟩
 have c5 : IntKind.i64.wrap ((k : Int) + 1) = (k : Int) + 1 := IntWalk.i64_in _ (by omega)
 have HS2 : Hid (∀ w', Below w.heap.size w w' → (fun w' : World => Below w.heap.size w w') w') := hJ (fun w' hb => hb)
 go_wp2_with fail
 obtain ⟨v2, hv2⟩ := nmz (World.drew w)
 have HX2 := hJ (show Below w.heap.size w v2 by rw [← hv2]; exact (Below.refl _ _).drew)
 refine wp_region_held_drew (S := (fun w' : World => Below w.heap.size w w')) (by kernel_rfl) ?_ (fun hHeld => ?_)
 ·rw [hv2]
  exact HS2.out _ HX2.out
 rw [hv2] at hHeld ⊢
 clear hv2
 refine tq 0 ?_
 try simp only [PT]
 refine tq 1 ?_
 try simp only [PT]
 refine tq 2 ?_
 try simp only [PT]
 refine tq 3 ?_
 try simp only [PT]
 refine tq 4 ?_
 try simp only [PT]
 refine tq 5 ?_
 try simp only [PT]
 refine tq 6 ?_
 try simp only [PT]
 refine tq 7 ?_
 try simp only [PT]
 refine tq 8 ?_
 try simp only [PT]
 refine tq 9 ?_
 try simp only [PT]
 refine tq 10 ?_
 try simp only [PT]
 refine tq 11 ?_
 try simp only [PT]
 refine wpAnyH_done (by kernel_rfl) ?_ _
 clear hHeld
 go_wp2
 go_ret3
 refine ⟨?_, HX2.out⟩
 rw [← HA.out, ← HB.out]
 rfl
theorem ps_lim (l : List UInt8) : (psV l).natAbs < lim := by
 have h0 : 0 < lim := by rw [lim_two]; exact Nat.pow_pos (by decide)
 unfold psV
 split
 ·exact h0
 ·split
  ·unfold outV
   split
   ·assumption
   ·exact h0
  ·exact h0
theorem num_back {l : List UInt8} (h : isNum l = true) : decI (numOf l) = l := by
 have h1 : isDecB (cutL l) = true := by unfold isNum at h; revert h; cases isDecB (cutL l) <;> simp
 obtain ⟨hd, hne, hh⟩ := isDecB_dig h1
 have hdd := dec_dval hd hne hh
 unfold numOf
 cases hb : cutB l
 ·have hl : cutL l = l := by unfold cutL; rw [hb]; rfl
  rw [hl] at hdd ⊢
  rw [show sgn false (dval l) = (dval l : Int) from rfl]
  unfold decI
  rw [if_neg (by omega), Int.natAbs_natCast]
  exact hdd
 ·have hS : (cutL l == [48]) = false := by
   unfold isNum at h; rw [hb] at h; revert h; cases (cutL l == [48]) <;> simp
  have hpos : 0 < dval (cutL l) := by
   rcases Nat.eq_zero_or_pos (dval (cutL l)) with e | e
   ·exfalso
    rw [e, dec_lt (by decide)] at hdd
    rw [← hdd] at hS
    exact absurd hS (by decide)
   ·exact e
  have hl : l = 45 :: cutL l := by
   unfold cutB at hb
   unfold cutL cutB
   rw [hb]
   rcases l with _ | ⟨a, r⟩
   ·exact absurd hb (by decide)
   ·have : a = 45 := by simpa using hb
    subst this; rfl
  rw [show sgn true (dval (cutL l)) = -(dval (cutL l) : Int) from rfl]
  unfold decI
  rw [if_pos (by omega), Int.natAbs_neg, Int.natAbs_natCast, hdd]
  exact hl.symm
theorem ps_back (l : List UInt8) : psC l = 0 → decI (psV l) = l := by
 unfold psC psV
 intro h
 split at h
 ·omega
 ·rename_i hb
  rw [if_neg hb]
  split at h
  ·rename_i hn
   rw [if_pos hn]
   unfold outC at h
   split at h
   ·rename_i hl
    rw [outV, if_pos hl]
    exact num_back hn
   ·omega
  ·omega
/-- What strings.Cut finds in a text: the part ahead of the first slash, the part behind it. -/
def cutA (l : List UInt8) : List UInt8 := l.takeWhile (fun c => decide (c ≠ 47))
def cutZ (l : List UInt8) : List UInt8 := (l.dropWhile (fun c => decide (c ≠ 47))).drop 1
theorem cut_yes {a b : List UInt8} (h : (47 : UInt8) ∉ a) : cutA (a ++ 47 :: b) = a ∧ cutZ (a ++ 47 :: b) = b := by
 induction a with
 | nil => exact ⟨by simp [cutA], by simp [cutZ]⟩
 | cons x l ih =>
  have h1 : ¬ x = 47 := fun e => h (by rw [e]; exact List.mem_cons_self)
  have h2 := ih (fun m => h (List.mem_cons_of_mem _ m))
  unfold cutA cutZ at h2 ⊢
  rw [List.cons_append, List.takeWhile_cons, List.dropWhile_cons, if_pos (by simpa using h1), if_pos (by simpa using h1), h2.1, h2.2]
  exact ⟨rfl, rfl⟩
def fpK (a b : List UInt8) : Prop := psC a = 0 ∧ psC b = 0 ∧ 0 < psV b ∧ psV b ≠ 1 ∧ Nat.gcd (psV a).natAbs (psV b).natAbs = 1
instance (a b : List UInt8) : Decidable (fpK a b) := inferInstanceAs (Decidable (_ ∧ _))
/-- What Parse of a fraction returns: numerator, denominator, error. -/
def fqP (l : List UInt8) : Int := if 47 ∈ l then (if fpK (cutA l) (cutZ l) then psV (cutA l) else 0) else (if psC l = 0 then psV l else 0)
def fqQ (l : List UInt8) : Int := if 47 ∈ l then (if fpK (cutA l) (cutZ l) then psV (cutZ l) else 1) else 1
def fqC (l : List UInt8) : Int := if 47 ∈ l then (if fpK (cutA l) (cutZ l) then 0 else 2) else (if psC l = 0 then 0 else 2)
theorem fq_no {l : List UInt8} (h : (47 : UInt8) ∉ l) : fqP l = (if psC l = 0 then psV l else 0) ∧ fqQ l = 1 ∧ fqC l = (if psC l = 0 then 0 else 2) := ⟨if_neg h, if_neg h, if_neg h⟩
theorem fq_yes {a b : List UInt8} (h : (47 : UInt8) ∉ a) : fqP (a ++ 47 :: b) = (if fpK a b then psV a else 0) ∧ fqQ (a ++ 47 :: b) = (if fpK a b then psV b else 1) ∧ fqC (a ++ 47 :: b) = (if fpK a b then 0 else 2) := by
 obtain ⟨e1, e2⟩ := cut_yes (b := b) h
 have m : (47 : UInt8) ∈ a ++ 47 :: b := by simp
 unfold fqP fqQ fqC
 rw [if_pos m, if_pos m, if_pos m, e1, e2]
 exact ⟨rfl, rfl, rfl⟩
theorem fq_good {a b : List UInt8} (h : (47 : UInt8) ∉ a) (hk : fpK a b) : fqP (a ++ 47 :: b) = psV a ∧ fqQ (a ++ 47 :: b) = psV b ∧ fqC (a ++ 47 :: b) = 0 := by
 obtain ⟨e1, e2, e3⟩ := fq_yes (b := b) h
 rw [e1, e2, e3, if_pos hk, if_pos hk, if_pos hk]
 exact ⟨rfl, rfl, rfl⟩
theorem fq_bad {a b : List UInt8} (h : (47 : UInt8) ∉ a) (hk : ¬ fpK a b) : fqP (a ++ 47 :: b) = 0 ∧ fqQ (a ++ 47 :: b) = 1 ∧ fqC (a ++ 47 :: b) = 2 := by
 obtain ⟨e1, e2, e3⟩ := fq_yes (b := b) h
 rw [e1, e2, e3, if_neg hk, if_neg hk, if_neg hk]
 exact ⟨rfl, rfl, rfl⟩
theorem zero_fr : Fr 0 1 := ⟨low_one 0, by rw [lim_two]; exact Nat.pow_pos (by decide), one_lim⟩
theorem fq_fr (l : List UInt8) : Fr (fqP l) (fqQ l) := by
 rcases slash_cases l with h | ⟨a, b, rfl, h⟩
 ·obtain ⟨e1, e2, _⟩ := fq_no h
  rw [e1, e2]
  split
  ·exact ⟨low_one _, ps_lim l, one_lim⟩
  ·exact zero_fr
 ·by_cases hk : fpK a b
  ·obtain ⟨e1, e2, _⟩ := fq_good h hk
   rw [e1, e2]
   exact ⟨⟨hk.2.2.1, hk.2.2.2.2⟩, ps_lim a, ps_lim b⟩
  ·obtain ⟨e1, e2, _⟩ := fq_bad h hk
   rw [e1, e2]
   exact zero_fr
theorem fp_cases (a b : List UInt8) : psC a ≠ 0 ∨ (psC a = 0 ∧ psC b ≠ 0) ∨ (psC a = 0 ∧ psC b = 0 ∧ psV b ≤ 0) ∨ (psC a = 0 ∧ psC b = 0 ∧ 0 < psV b ∧ psV b = 1) ∨ (psC a = 0 ∧ psC b = 0 ∧ 0 < psV b ∧ psV b ≠ 1 ∧ Nat.gcd (psV a).natAbs (psV b).natAbs ≠ 1) ∨ fpK a b := by
 by_cases h1 : psC a = 0
 ·by_cases h2 : psC b = 0
  ·by_cases h3 : 0 < psV b
   ·by_cases h4 : psV b = 1
    ·exact .inr (.inr (.inr (.inl ⟨h1, h2, h3, h4⟩)))
    ·by_cases h5 : Nat.gcd (psV a).natAbs (psV b).natAbs = 1
     ·exact .inr (.inr (.inr (.inr (.inr ⟨h1, h2, h3, h4, h5⟩))))
     ·exact .inr (.inr (.inr (.inr (.inl ⟨h1, h2, h3, h4, h5⟩))))
   ·exact .inr (.inr (.inl ⟨h1, h2, by omega⟩))
  ·exact .inr (.inl ⟨h1, h2⟩)
 ·exact .inl h1
theorem pf_zero (w : World) : PF w false none 0 0 false none 0 0 0 1 := ⟨PI.zero w, PI.zero w⟩
set_option maxHeartbeats 1000000 in
set_option maxRecDepth 100000 in
theorem scut_any (l x y : List UInt8) (f : Bool) (w : World) (h : Calls Tryz.prog 181 #[.string ⟨l.toArray⟩, .string ⟨#[47]⟩] w (RetCt x y f w)) :
  Calls Tryz.prog 122 #[.string ⟨l.toArray⟩, .string ⟨#[47]⟩] w (RetCt x y f w) := by
 have HC := hJ h
 clear h
 go_enter Tryz.func122, Tryz.ntmps122
 go_wp2_with fail
 refine HC.out.mono ?_
 rintro e w1 ⟨rfl, hb⟩
 have HB := hJ hb
 clear hb
 go_wp2
 go_ret3
 exact ⟨rfl, HB.out⟩
theorem cut_no_any (l : List UInt8) (hs : l.length ≤ 1000000) (h : (47 : UInt8) ∉ l) (w : World) :
  Calls Tryz.prog 122 #[.string ⟨l.toArray⟩, .string ⟨#[47]⟩] w (RetCt l [] false w) := scut_any _ _ _ _ _ (slcut_no l hs h w)
theorem cut_yes_any (a b : List UInt8) (hs : (a ++ 47 :: b).length ≤ 1000000) (h : (47 : UInt8) ∉ a) (w : World) :
  Calls Tryz.prog 122 #[.string ⟨(a ++ 47 :: b).toArray⟩, .string ⟨#[47]⟩] w (RetCt a b true w) := scut_any _ _ _ _ _ (slcut_yes a b hs h w)
set_option maxRecDepth 100000 in
set_option maxHeartbeats 1600000 in
theorem fsign_any (p q : Int) (s0 t0 : Bool) (A0 B0 : Option Addr) (n0 c0 m0 d0 : Nat) (w : World) (hx : PF w s0 A0 n0 c0 t0 B0 m0 d0 p q) (hp : p.natAbs < lim) :
  Calls Tryz.prog 44 #[.agg #[.bool s0, .slice A0 n0 c0, .bool t0, .slice B0 m0 d0]] w fun e w' => e = .returned (.int .i64 (cmpI p 0)) ∧ Below w.heap.size w w' := by
 have HP0 := hJ hx
 have HL := hJ hp
 clear hx hp
 obtain ⟨x1, hx1⟩ := nmz (w.alloc (.cells #[.bool s0, .slice A0 n0 c0, .bool t0, .slice B0 m0 d0] 35))
 have HB1 := hJ (show Below w.heap.size w x1 by rw [← hx1]; exact ((Below.refl _ _).alloc (Nat.le_refl _) _))
 have HQ1x0 := hJ (show BX 35 x1 w.heap.size #[.bool s0, .slice A0 n0 c0, .bool t0, .slice B0 m0 d0] by rw [← hx1]; exact (BX.at rfl))
 have HG1x0 := hJ (show w.heap.size ≤ w.heap.size by omega)
 have HL1x0 := hJ (show w.heap.size < x1.heap.size from HQ1x0.out.lt)
 obtain ⟨cl2, cl3⟩ := HQ1x0.out.c2 0 1 rfl rfl
 have HP0w1 := hJ (PF.new HP0.out HB1.out)
 go_enter Tryz.func44, Tryz.ntmps44
 go_wp2_with fail
 clear hx1 cl2 cl3
 refine (sign_any p s0 A0 n0 c0 x1 HP0w1.out.1 (Nat.le_trans (plim HP0w1.out.1 HL.out) (by decide))).mono ?_
 rintro e w4 ⟨rfl, hb⟩
 have HB4 := hJ hb
 clear hb
 have HC0_2 := hJ (bt HB1.out HB4.out)
 go_wp2
 go_ret
 exact ⟨rfl, HC0_2.out⟩
set_option maxRecDepth 100000 in
set_option maxHeartbeats 1600000 in
theorem fparse_yes (a b : List UInt8) (w : World) (hs : (a ++ 47 :: b).length ≤ 100000) (h : (47 : UInt8) ∉ a) :
  Calls Tryz.prog 53 #[.string ⟨(a ++ 47 :: b).toArray⟩] w (RetFE (fqP (a ++ 47 :: b)) (fqQ (a ++ 47 :: b)) (fqC (a ++ 47 :: b)) w) := by
 have HS := hJ hs
 have HN := hJ h
 have hlen : (a ++ 47 :: b).length = a.length + 1 + b.length := by simp; omega
 have HLA := hJ (show a.length ≤ 100000 by omega)
 have HLB := hJ (show b.length ≤ 100000 by omega)
 clear hs h hlen
 rcases fp_cases a b with h1 | ⟨h1, h2⟩ | ⟨h1, h2, h3⟩ | ⟨h1, h2, h3, h4⟩ | ⟨h1, h2, h3, h4, h5⟩ | hk
 ·have HR := hJ (fq_bad HN.out (b := b) (fun k => h1 k.1))
  obtain ⟨ca, hca⟩ := nmz (psC a)
  have HCA := hJ hca
  rw [hca] at h1
  clear hca
  obtain ⟨x1, hx1⟩ := nmz (w.alloc (.cells #[.bool false, .slice none 0 0, .bool false, .slice none 0 0] 35))
  have HB1 := hJ (show Below w.heap.size w x1 by rw [← hx1]; exact ((Below.refl _ _).alloc (Nat.le_refl _) _))
  have HQ1x0 := hJ (show BX 35 x1 w.heap.size #[.bool false, .slice none 0 0, .bool false, .slice none 0 0] by rw [← hx1]; exact (BX.at rfl))
  have HG1x0 := hJ (show w.heap.size ≤ w.heap.size by omega)
  have HL1x0 := hJ (show w.heap.size < x1.heap.size from HQ1x0.out.lt)
  go_enter Tryz.func53, Tryz.ntmps53
  go_wp2_with fail
  clear hx1
  refine (cut_yes_any a b (Nat.le_trans HS.out (by decide)) HN.out x1).mono ?_
  rintro e w2 ⟨rfl, hb⟩
  have HB2 := hJ hb
  clear hb
  go_wp2_with fail
  refine (pparse_any a w2 HLA.out).mono ?_
  rw [HCA.out]
  rintro e w3 ⟨s11, A11, n11, c11, rfl, hr11, hb⟩
  have HB3 := hJ hb
  have HR3hr11 := hJ hr11
  clear hb hr11
  obtain ⟨x4, hx4⟩ := nmz (w3.alloc (.cells #[.bool s11, .slice A11 n11 c11] 33))
  have HB4 := hJ (show Below w3.heap.size w3 x4 by rw [← hx4]; exact ((Below.refl _ _).alloc (Nat.le_refl _) _))
  have HQ4x0 := hJ (show BX 33 x4 w3.heap.size #[.bool s11, .slice A11 n11 c11] by rw [← hx4]; exact (BX.at rfl))
  have HG4x0 := hJ (show w3.heap.size ≤ w3.heap.size by omega)
  have HL4x0 := hJ (show w3.heap.size < x4.heap.size from HQ4x0.out.lt)
  have HC1_4 := hJ (bt (bt HB2.out HB3.out) HB4.out)
  have HQ1x0w4 := hJ (BX.new HQ1x0.out HC1_4.out)
  have fz5_0 := HQ1x0w4.out.frozen 0
  have fc5_0 := HQ1x0w4.out.cell 0 rfl
  have fz5_1 := HQ1x0w4.out.frozen 1
  have fc5_1 := HQ1x0w4.out.cell 1 rfl
  have fz5_2 := HQ1x0w4.out.frozen 2
  have fc5_2 := HQ1x0w4.out.cell 2 rfl
  have fz5_3 := HQ1x0w4.out.frozen 3
  have fc5_3 := HQ1x0w4.out.cell 3 rfl
  obtain ⟨x5, hx5⟩ := nmz (World.setCell (World.setCell (World.setCell (World.setCell x4 ⟨w.heap.size, 0, none⟩ (.bool false)) ⟨w.heap.size, 1, none⟩ (.slice none 0 0)) ⟨w.heap.size, 2, none⟩ (.bool false)) ⟨w.heap.size, 3, none⟩ (.slice none 0 0))
  have HE5 := hJ (show sto x4 w.heap.size 0 [.bool false, .slice none 0 0, .bool false, .slice none 0 0] = x5 from hx5)
  have HQ5s := hJ (show BX 35 x5 w.heap.size #[.bool false, .slice none 0 0, .bool false, .slice none 0 0] by rw [← HE5.out]; exact BX.put HQ1x0w4.out _ _)
  have HC0_5 := hJ (show Below w.heap.size w x5 by rw [← HE5.out]; exact below_sto (bt (bt (bt HB1.out HB2.out) HB3.out) HB4.out) HG1x0.out _ _)
  go_wp2
  clear hx4 fz5_0 fc5_0 fz5_1 fc5_1 fz5_2 fc5_2 fz5_3 fc5_3 hx5
  exact bodyPost_ret (results_cell1 rfl _ _ _ _ _ _ _ rfl HQ5s.out Tryz.underlying35 rfl F_size) rfl (by rw [HR.out.1, HR.out.2.1, HR.out.2.2]; exact ⟨false, none, 0, 0, false, none, 0, 0, rfl, pf_zero _, HC0_5.out⟩)
 ·have HR := hJ (fq_bad HN.out (b := b) (fun k => h2 k.2.1))
  have HCA := hJ h1
  obtain ⟨cb, hcb⟩ := nmz (psC b)
  have HCB := hJ hcb
  rw [hcb] at h2
  clear hcb h1
  obtain ⟨x6, hx6⟩ := nmz (w.alloc (.cells #[.bool false, .slice none 0 0, .bool false, .slice none 0 0] 35))
  have HB6 := hJ (show Below w.heap.size w x6 by rw [← hx6]; exact ((Below.refl _ _).alloc (Nat.le_refl _) _))
  have HQ6x0 := hJ (show BX 35 x6 w.heap.size #[.bool false, .slice none 0 0, .bool false, .slice none 0 0] by rw [← hx6]; exact (BX.at rfl))
  have HG6x0 := hJ (show w.heap.size ≤ w.heap.size by omega)
  have HL6x0 := hJ (show w.heap.size < x6.heap.size from HQ6x0.out.lt)
  go_enter Tryz.func53, Tryz.ntmps53
  go_wp2_with fail
  clear hx6
  refine (cut_yes_any a b (Nat.le_trans HS.out (by decide)) HN.out x6).mono ?_
  rintro e w7 ⟨rfl, hb⟩
  have HB7 := hJ hb
  clear hb
  go_wp2_with fail
  refine (pparse_any a w7 HLA.out).mono ?_
  rw [HCA.out]
  rintro e w8 ⟨s12, A12, n12, c12, rfl, hr12, hb⟩
  have HB8 := hJ hb
  have HR8hr12 := hJ hr12
  clear hb hr12
  obtain ⟨x9, hx9⟩ := nmz (w8.alloc (.cells #[.bool s12, .slice A12 n12 c12] 33))
  have HB9 := hJ (show Below w8.heap.size w8 x9 by rw [← hx9]; exact ((Below.refl _ _).alloc (Nat.le_refl _) _))
  have HQ9x0 := hJ (show BX 33 x9 w8.heap.size #[.bool s12, .slice A12 n12 c12] by rw [← hx9]; exact (BX.at rfl))
  have HG9x0 := hJ (show w8.heap.size ≤ w8.heap.size by omega)
  have HL9x0 := hJ (show w8.heap.size < x9.heap.size from HQ9x0.out.lt)
  go_wp2_with fail
  clear hx9
  refine (pparse_any b x9 HLB.out).mono ?_
  rw [HCB.out]
  rintro e w10 ⟨s13, A13, n13, c13, rfl, hr13, hb⟩
  have HB10 := hJ hb
  have HR10hr13 := hJ hr13
  clear hb hr13
  obtain ⟨x11, hx11⟩ := nmz (w10.alloc (.cells #[.bool s13, .slice A13 n13 c13] 33))
  have HB11 := hJ (show Below w10.heap.size w10 x11 by rw [← hx11]; exact ((Below.refl _ _).alloc (Nat.le_refl _) _))
  have HQ11x0 := hJ (show BX 33 x11 w10.heap.size #[.bool s13, .slice A13 n13 c13] by rw [← hx11]; exact (BX.at rfl))
  have HG11x0 := hJ (show w10.heap.size ≤ w10.heap.size by omega)
  have HL11x0 := hJ (show w10.heap.size < x11.heap.size from HQ11x0.out.lt)
  have HC1_6 := hJ (bt (bt (bt (bt HB7.out HB8.out) HB9.out) HB10.out) HB11.out)
  have HQ6x0w6 := hJ (BX.new HQ6x0.out HC1_6.out)
  have fz12_0 := HQ6x0w6.out.frozen 0
  have fc12_0 := HQ6x0w6.out.cell 0 rfl
  have fz12_1 := HQ6x0w6.out.frozen 1
  have fc12_1 := HQ6x0w6.out.cell 1 rfl
  have fz12_2 := HQ6x0w6.out.frozen 2
  have fc12_2 := HQ6x0w6.out.cell 2 rfl
  have fz12_3 := HQ6x0w6.out.frozen 3
  have fc12_3 := HQ6x0w6.out.cell 3 rfl
  obtain ⟨x12, hx12⟩ := nmz (World.setCell (World.setCell (World.setCell (World.setCell x11 ⟨w.heap.size, 0, none⟩ (.bool false)) ⟨w.heap.size, 1, none⟩ (.slice none 0 0)) ⟨w.heap.size, 2, none⟩ (.bool false)) ⟨w.heap.size, 3, none⟩ (.slice none 0 0))
  have HE12 := hJ (show sto x11 w.heap.size 0 [.bool false, .slice none 0 0, .bool false, .slice none 0 0] = x12 from hx12)
  have HQ12s := hJ (show BX 35 x12 w.heap.size #[.bool false, .slice none 0 0, .bool false, .slice none 0 0] by rw [← HE12.out]; exact BX.put HQ6x0w6.out _ _)
  have HC0_7 := hJ (show Below w.heap.size w x12 by rw [← HE12.out]; exact below_sto (bt (bt (bt (bt (bt HB6.out HB7.out) HB8.out) HB9.out) HB10.out) HB11.out) HG6x0.out _ _)
  go_wp2
  clear hx11 fz12_0 fc12_0 fz12_1 fc12_1 fz12_2 fc12_2 fz12_3 fc12_3 hx12
  exact bodyPost_ret (results_cell1 rfl _ _ _ _ _ _ _ rfl HQ12s.out Tryz.underlying35 rfl F_size) rfl (by rw [HR.out.1, HR.out.2.1, HR.out.2.2]; exact ⟨false, none, 0, 0, false, none, 0, 0, rfl, pf_zero _, HC0_7.out⟩)
 ·have HR := hJ (fq_bad HN.out (b := b) (fun k => by have := k.2.2.1; omega))
  have HCA := hJ h1
  have HCB := hJ h2
  clear h1 h2
  obtain ⟨u, hu⟩ := nmz (cmpI (psV b) 0)
  have HU := hJ hu
  have hu0 : u ≤ 0 := by rw [← hu]; unfold cmpI; split; decide; rw [if_neg (by omega)]; decide
  clear hu h3
  obtain ⟨x13, hx13⟩ := nmz (w.alloc (.cells #[.bool false, .slice none 0 0, .bool false, .slice none 0 0] 35))
  have HB13 := hJ (show Below w.heap.size w x13 by rw [← hx13]; exact ((Below.refl _ _).alloc (Nat.le_refl _) _))
  have HQ13x0 := hJ (show BX 35 x13 w.heap.size #[.bool false, .slice none 0 0, .bool false, .slice none 0 0] by rw [← hx13]; exact (BX.at rfl))
  have HG13x0 := hJ (show w.heap.size ≤ w.heap.size by omega)
  have HL13x0 := hJ (show w.heap.size < x13.heap.size from HQ13x0.out.lt)
  go_enter Tryz.func53, Tryz.ntmps53
  go_wp2_with fail
  clear hx13
  refine (cut_yes_any a b (Nat.le_trans HS.out (by decide)) HN.out x13).mono ?_
  rintro e w14 ⟨rfl, hb⟩
  have HB14 := hJ hb
  clear hb
  go_wp2_with fail
  refine (pparse_any a w14 HLA.out).mono ?_
  rw [HCA.out]
  rintro e w15 ⟨s14, A14, n14, c14, rfl, hr14, hb⟩
  have HB15 := hJ hb
  have HR15hr14 := hJ hr14
  clear hb hr14
  obtain ⟨x16, hx16⟩ := nmz (w15.alloc (.cells #[.bool s14, .slice A14 n14 c14] 33))
  have HB16 := hJ (show Below w15.heap.size w15 x16 by rw [← hx16]; exact ((Below.refl _ _).alloc (Nat.le_refl _) _))
  have HQ16x0 := hJ (show BX 33 x16 w15.heap.size #[.bool s14, .slice A14 n14 c14] by rw [← hx16]; exact (BX.at rfl))
  have HG16x0 := hJ (show w15.heap.size ≤ w15.heap.size by omega)
  have HL16x0 := hJ (show w15.heap.size < x16.heap.size from HQ16x0.out.lt)
  go_wp2_with fail
  clear hx16
  refine (pparse_any b x16 HLB.out).mono ?_
  rw [HCB.out]
  rintro e w17 ⟨s15, A15, n15, c15, rfl, hr15, hb⟩
  have HB17 := hJ hb
  have HR17hr15 := hJ hr15
  clear hb hr15
  obtain ⟨x18, hx18⟩ := nmz (w17.alloc (.cells #[.bool s15, .slice A15 n15 c15] 33))
  have HB18 := hJ (show Below w17.heap.size w17 x18 by rw [← hx18]; exact ((Below.refl _ _).alloc (Nat.le_refl _) _))
  have HQ18x0 := hJ (show BX 33 x18 w17.heap.size #[.bool s15, .slice A15 n15 c15] by rw [← hx18]; exact (BX.at rfl))
  have HG18x0 := hJ (show w17.heap.size ≤ w17.heap.size by omega)
  have HL18x0 := hJ (show w17.heap.size < x18.heap.size from HQ18x0.out.lt)
  obtain ⟨cl19, cl20⟩ := HQ18x0.out.c2 0 1 rfl rfl
  have HR17hr15w6 := hJ (PIo.new HR17hr15.out HB18.out)
  go_wp2_with fail
  clear hx18 cl19 cl20
  refine (sign_any (psV b) s15 A15 n15 c15 x18 HR17hr15w6.out (Nat.le_trans (plim HR17hr15w6.out (ps_lim b)) (by decide))).mono ?_
  rw [HU.out]
  rintro e w21 ⟨rfl, hb⟩
  have HB21 := hJ hb
  clear hb
  have HC1_7 := hJ (bt (bt (bt (bt (bt HB14.out HB15.out) HB16.out) HB17.out) HB18.out) HB21.out)
  have HQ13x0w7 := hJ (BX.new HQ13x0.out HC1_7.out)
  have fz22_0 := HQ13x0w7.out.frozen 0
  have fc22_0 := HQ13x0w7.out.cell 0 rfl
  have fz22_1 := HQ13x0w7.out.frozen 1
  have fc22_1 := HQ13x0w7.out.cell 1 rfl
  have fz22_2 := HQ13x0w7.out.frozen 2
  have fc22_2 := HQ13x0w7.out.cell 2 rfl
  have fz22_3 := HQ13x0w7.out.frozen 3
  have fc22_3 := HQ13x0w7.out.cell 3 rfl
  obtain ⟨x22, hx22⟩ := nmz (World.setCell (World.setCell (World.setCell (World.setCell w21 ⟨w.heap.size, 0, none⟩ (.bool false)) ⟨w.heap.size, 1, none⟩ (.slice none 0 0)) ⟨w.heap.size, 2, none⟩ (.bool false)) ⟨w.heap.size, 3, none⟩ (.slice none 0 0))
  have HE22 := hJ (show sto w21 w.heap.size 0 [.bool false, .slice none 0 0, .bool false, .slice none 0 0] = x22 from hx22)
  have HQ22s := hJ (show BX 35 x22 w.heap.size #[.bool false, .slice none 0 0, .bool false, .slice none 0 0] by rw [← HE22.out]; exact BX.put HQ13x0w7.out _ _)
  have HC0_8 := hJ (show Below w.heap.size w x22 by rw [← HE22.out]; exact below_sto (bt (bt (bt (bt (bt (bt HB13.out HB14.out) HB15.out) HB16.out) HB17.out) HB18.out) HB21.out) HG13x0.out _ _)
  go_wp2
  clear fz22_0 fc22_0 fz22_1 fc22_1 fz22_2 fc22_2 fz22_3 fc22_3 hx22
  exact bodyPost_ret (results_cell1 rfl _ _ _ _ _ _ _ rfl HQ22s.out Tryz.underlying35 rfl F_size) rfl (by rw [HR.out.1, HR.out.2.1, HR.out.2.2]; exact ⟨false, none, 0, 0, false, none, 0, 0, rfl, pf_zero _, HC0_8.out⟩)
 ·have HR := hJ (fq_bad HN.out (b := b) (fun k => k.2.2.2.1 h4))
  have HCA := hJ h1
  have HCB := hJ h2
  clear h1 h2
  have HU := hJ (show cmpI (psV b) 0 = 1 by unfold cmpI; rw [if_neg (by omega), if_pos h3])
  have HO := hJ (show oneB (psV b) = true from decide_eq_true h4)
  clear h3 h4
  obtain ⟨x23, hx23⟩ := nmz (w.alloc (.cells #[.bool false, .slice none 0 0, .bool false, .slice none 0 0] 35))
  have HB23 := hJ (show Below w.heap.size w x23 by rw [← hx23]; exact ((Below.refl _ _).alloc (Nat.le_refl _) _))
  have HQ23x0 := hJ (show BX 35 x23 w.heap.size #[.bool false, .slice none 0 0, .bool false, .slice none 0 0] by rw [← hx23]; exact (BX.at rfl))
  have HG23x0 := hJ (show w.heap.size ≤ w.heap.size by omega)
  have HL23x0 := hJ (show w.heap.size < x23.heap.size from HQ23x0.out.lt)
  go_enter Tryz.func53, Tryz.ntmps53
  go_wp2_with fail
  clear hx23
  refine (cut_yes_any a b (Nat.le_trans HS.out (by decide)) HN.out x23).mono ?_
  rintro e w24 ⟨rfl, hb⟩
  have HB24 := hJ hb
  clear hb
  go_wp2_with fail
  refine (pparse_any a w24 HLA.out).mono ?_
  rw [HCA.out]
  rintro e w25 ⟨s16, A16, n16, c16, rfl, hr16, hb⟩
  have HB25 := hJ hb
  have HR25hr16 := hJ hr16
  clear hb hr16
  obtain ⟨x26, hx26⟩ := nmz (w25.alloc (.cells #[.bool s16, .slice A16 n16 c16] 33))
  have HB26 := hJ (show Below w25.heap.size w25 x26 by rw [← hx26]; exact ((Below.refl _ _).alloc (Nat.le_refl _) _))
  have HQ26x0 := hJ (show BX 33 x26 w25.heap.size #[.bool s16, .slice A16 n16 c16] by rw [← hx26]; exact (BX.at rfl))
  have HG26x0 := hJ (show w25.heap.size ≤ w25.heap.size by omega)
  have HL26x0 := hJ (show w25.heap.size < x26.heap.size from HQ26x0.out.lt)
  go_wp2_with fail
  clear hx26
  refine (pparse_any b x26 HLB.out).mono ?_
  rw [HCB.out]
  rintro e w27 ⟨s17, A17, n17, c17, rfl, hr17, hb⟩
  have HB27 := hJ hb
  have HR27hr17 := hJ hr17
  clear hb hr17
  obtain ⟨x28, hx28⟩ := nmz (w27.alloc (.cells #[.bool s17, .slice A17 n17 c17] 33))
  have HB28 := hJ (show Below w27.heap.size w27 x28 by rw [← hx28]; exact ((Below.refl _ _).alloc (Nat.le_refl _) _))
  have HQ28x0 := hJ (show BX 33 x28 w27.heap.size #[.bool s17, .slice A17 n17 c17] by rw [← hx28]; exact (BX.at rfl))
  have HG28x0 := hJ (show w27.heap.size ≤ w27.heap.size by omega)
  have HL28x0 := hJ (show w27.heap.size < x28.heap.size from HQ28x0.out.lt)
  obtain ⟨cl29, cl30⟩ := HQ28x0.out.c2 0 1 rfl rfl
  have HR27hr17w6 := hJ (PIo.new HR27hr17.out HB28.out)
  go_wp2_with fail
  clear hx28 cl29 cl30
  refine (sign_any (psV b) s17 A17 n17 c17 x28 HR27hr17w6.out (Nat.le_trans (plim HR27hr17w6.out (ps_lim b)) (by decide))).mono ?_
  rw [HU.out]
  rintro e w31 ⟨rfl, hb⟩
  have HB31 := hJ hb
  clear hb
  have HQ28x0w7 := hJ (BX.new HQ28x0.out HB31.out)
  obtain ⟨cl32, cl33⟩ := HQ28x0w7.out.c2 0 1 rfl rfl
  have HR27hr17w7 := hJ (PIo.new HR27hr17w6.out HB31.out)
  go_wp2_with fail
  clear cl32 cl33
  refine (isone_any (psV b) s17 A17 n17 c17 w31 HR27hr17w7.out (Nat.le_trans (plim HR27hr17w7.out (ps_lim b)) (by decide))).mono ?_
  rw [HO.out]
  rintro e w34 ⟨rfl, hb⟩
  have HB34 := hJ hb
  clear hb
  have HC1_8 := hJ (bt (bt (bt (bt (bt (bt HB24.out HB25.out) HB26.out) HB27.out) HB28.out) HB31.out) HB34.out)
  have HQ23x0w8 := hJ (BX.new HQ23x0.out HC1_8.out)
  have fz35_0 := HQ23x0w8.out.frozen 0
  have fc35_0 := HQ23x0w8.out.cell 0 rfl
  have fz35_1 := HQ23x0w8.out.frozen 1
  have fc35_1 := HQ23x0w8.out.cell 1 rfl
  have fz35_2 := HQ23x0w8.out.frozen 2
  have fc35_2 := HQ23x0w8.out.cell 2 rfl
  have fz35_3 := HQ23x0w8.out.frozen 3
  have fc35_3 := HQ23x0w8.out.cell 3 rfl
  obtain ⟨x35, hx35⟩ := nmz (World.setCell (World.setCell (World.setCell (World.setCell w34 ⟨w.heap.size, 0, none⟩ (.bool false)) ⟨w.heap.size, 1, none⟩ (.slice none 0 0)) ⟨w.heap.size, 2, none⟩ (.bool false)) ⟨w.heap.size, 3, none⟩ (.slice none 0 0))
  have HE35 := hJ (show sto w34 w.heap.size 0 [.bool false, .slice none 0 0, .bool false, .slice none 0 0] = x35 from hx35)
  have HQ35s := hJ (show BX 35 x35 w.heap.size #[.bool false, .slice none 0 0, .bool false, .slice none 0 0] by rw [← HE35.out]; exact BX.put HQ23x0w8.out _ _)
  have HC0_9 := hJ (show Below w.heap.size w x35 by rw [← HE35.out]; exact below_sto (bt (bt (bt (bt (bt (bt (bt HB23.out HB24.out) HB25.out) HB26.out) HB27.out) HB28.out) HB31.out) HB34.out) HG23x0.out _ _)
  go_wp2
  clear fz35_0 fc35_0 fz35_1 fc35_1 fz35_2 fc35_2 fz35_3 fc35_3 hx35
  exact bodyPost_ret (results_cell1 rfl _ _ _ _ _ _ _ rfl HQ35s.out Tryz.underlying35 rfl F_size) rfl (by rw [HR.out.1, HR.out.2.1, HR.out.2.2]; exact ⟨false, none, 0, 0, false, none, 0, 0, rfl, pf_zero _, HC0_9.out⟩)
 ·have HR := hJ (fq_bad HN.out (b := b) (fun k => h5 k.2.2.2.2))
  have HCA := hJ h1
  have HCB := hJ h2
  clear h1 h2
  have HU := hJ (show cmpI (psV b) 0 = 1 by unfold cmpI; rw [if_neg (by omega), if_pos h3])
  have HO := hJ (show oneB (psV b) = false from decide_eq_false h4)
  have HG := hJ (show oneB ((Nat.gcd (psV a).natAbs (psV b).natAbs : Nat) : Int) = false from decide_eq_false (by omega))
  have HGL := hJ (show ((Nat.gcd (psV a).natAbs (psV b).natAbs : Nat) : Int).natAbs < lim by rw [Int.natAbs_natCast]; exact Nat.lt_of_le_of_lt (Nat.gcd_le_right _ (by omega)) (ps_lim b))
  clear h3 h4 h5
  obtain ⟨x36, hx36⟩ := nmz (w.alloc (.cells #[.bool false, .slice none 0 0, .bool false, .slice none 0 0] 35))
  have HB36 := hJ (show Below w.heap.size w x36 by rw [← hx36]; exact ((Below.refl _ _).alloc (Nat.le_refl _) _))
  have HQ36x0 := hJ (show BX 35 x36 w.heap.size #[.bool false, .slice none 0 0, .bool false, .slice none 0 0] by rw [← hx36]; exact (BX.at rfl))
  have HG36x0 := hJ (show w.heap.size ≤ w.heap.size by omega)
  have HL36x0 := hJ (show w.heap.size < x36.heap.size from HQ36x0.out.lt)
  go_enter Tryz.func53, Tryz.ntmps53
  go_wp2_with fail
  clear hx36
  refine (cut_yes_any a b (Nat.le_trans HS.out (by decide)) HN.out x36).mono ?_
  rintro e w37 ⟨rfl, hb⟩
  have HB37 := hJ hb
  clear hb
  go_wp2_with fail
  refine (pparse_any a w37 HLA.out).mono ?_
  rw [HCA.out]
  rintro e w38 ⟨s18, A18, n18, c18, rfl, hr18, hb⟩
  have HB38 := hJ hb
  have HR38hr18 := hJ hr18
  clear hb hr18
  obtain ⟨x39, hx39⟩ := nmz (w38.alloc (.cells #[.bool s18, .slice A18 n18 c18] 33))
  have HB39 := hJ (show Below w38.heap.size w38 x39 by rw [← hx39]; exact ((Below.refl _ _).alloc (Nat.le_refl _) _))
  have HQ39x0 := hJ (show BX 33 x39 w38.heap.size #[.bool s18, .slice A18 n18 c18] by rw [← hx39]; exact (BX.at rfl))
  have HG39x0 := hJ (show w38.heap.size ≤ w38.heap.size by omega)
  have HL39x0 := hJ (show w38.heap.size < x39.heap.size from HQ39x0.out.lt)
  go_wp2_with fail
  clear hx39
  refine (pparse_any b x39 HLB.out).mono ?_
  rw [HCB.out]
  rintro e w40 ⟨s19, A19, n19, c19, rfl, hr19, hb⟩
  have HB40 := hJ hb
  have HR40hr19 := hJ hr19
  clear hb hr19
  obtain ⟨x41, hx41⟩ := nmz (w40.alloc (.cells #[.bool s19, .slice A19 n19 c19] 33))
  have HB41 := hJ (show Below w40.heap.size w40 x41 by rw [← hx41]; exact ((Below.refl _ _).alloc (Nat.le_refl _) _))
  have HQ41x0 := hJ (show BX 33 x41 w40.heap.size #[.bool s19, .slice A19 n19 c19] by rw [← hx41]; exact (BX.at rfl))
  have HG41x0 := hJ (show w40.heap.size ≤ w40.heap.size by omega)
  have HL41x0 := hJ (show w40.heap.size < x41.heap.size from HQ41x0.out.lt)
  obtain ⟨cl42, cl43⟩ := HQ41x0.out.c2 0 1 rfl rfl
  have HR40hr19w6 := hJ (PIo.new HR40hr19.out HB41.out)
  go_wp2_with fail
  clear hx41 cl42 cl43
  refine (sign_any (psV b) s19 A19 n19 c19 x41 HR40hr19w6.out (Nat.le_trans (plim HR40hr19w6.out (ps_lim b)) (by decide))).mono ?_
  rw [HU.out]
  rintro e w44 ⟨rfl, hb⟩
  have HB44 := hJ hb
  clear hb
  have HQ41x0w7 := hJ (BX.new HQ41x0.out HB44.out)
  obtain ⟨cl45, cl46⟩ := HQ41x0w7.out.c2 0 1 rfl rfl
  have HR40hr19w7 := hJ (PIo.new HR40hr19w6.out HB44.out)
  go_wp2_with fail
  clear cl45 cl46
  refine (isone_any (psV b) s19 A19 n19 c19 w44 HR40hr19w7.out (Nat.le_trans (plim HR40hr19w7.out (ps_lim b)) (by decide))).mono ?_
  rw [HO.out]
  rintro e w47 ⟨rfl, hb⟩
  have HB47 := hJ hb
  clear hb
  have HC4_8 := hJ (bt (bt (bt HB40.out HB41.out) HB44.out) HB47.out)
  have HQ39x0w8 := hJ (BX.new HQ39x0.out HC4_8.out)
  obtain ⟨cl48, cl49⟩ := HQ39x0w8.out.c2 0 1 rfl rfl
  have HQ41x0w8 := hJ (BX.new HQ41x0w7.out HB47.out)
  obtain ⟨cl50, cl51⟩ := HQ41x0w8.out.c2 0 1 rfl rfl
  have HC3_8 := hJ (bt (bt (bt (bt HB39.out HB40.out) HB41.out) HB44.out) HB47.out)
  have HR38hr18w8 := hJ (PIo.new HR38hr18.out HC3_8.out)
  have HR40hr19w8 := hJ (PIo.new HR40hr19w7.out HB47.out)
  go_wp2_with fail
  clear cl48 cl49 cl50 cl51
  refine (fcommon_any (psV a) (psV b) s18 s19 A18 A19 n18 c18 n19 c19 w47 HR38hr18w8.out HR40hr19w8.out (Nat.le_trans (plim HR38hr18w8.out (ps_lim a)) (by decide)) (Nat.le_trans (plim HR40hr19w8.out (ps_lim b)) (by decide))).mono ?_
  rintro e w52 ⟨s20, A20, n20, c20, rfl, hr20, hb⟩
  have HB52 := hJ hb
  have HR52hr20 := hJ hr20
  clear hb hr20
  go_wp2_with fail
  refine (isone_any (((Nat.gcd (psV a).natAbs (psV b).natAbs : Nat) : Int)) s20 A20 n20 c20 w52 HR52hr20.out (Nat.le_trans (plim HR52hr20.out HGL.out) (by decide))).mono ?_
  rw [HG.out]
  rintro e w53 ⟨rfl, hb⟩
  have HB53 := hJ hb
  clear hb
  have HC1_10 := hJ (bt (bt (bt (bt (bt (bt (bt (bt HB37.out HB38.out) HB39.out) HB40.out) HB41.out) HB44.out) HB47.out) HB52.out) HB53.out)
  have HQ36x0w10 := hJ (BX.new HQ36x0.out HC1_10.out)
  have fz54_0 := HQ36x0w10.out.frozen 0
  have fc54_0 := HQ36x0w10.out.cell 0 rfl
  have fz54_1 := HQ36x0w10.out.frozen 1
  have fc54_1 := HQ36x0w10.out.cell 1 rfl
  have fz54_2 := HQ36x0w10.out.frozen 2
  have fc54_2 := HQ36x0w10.out.cell 2 rfl
  have fz54_3 := HQ36x0w10.out.frozen 3
  have fc54_3 := HQ36x0w10.out.cell 3 rfl
  obtain ⟨x54, hx54⟩ := nmz (World.setCell (World.setCell (World.setCell (World.setCell w53 ⟨w.heap.size, 0, none⟩ (.bool false)) ⟨w.heap.size, 1, none⟩ (.slice none 0 0)) ⟨w.heap.size, 2, none⟩ (.bool false)) ⟨w.heap.size, 3, none⟩ (.slice none 0 0))
  have HE54 := hJ (show sto w53 w.heap.size 0 [.bool false, .slice none 0 0, .bool false, .slice none 0 0] = x54 from hx54)
  have HQ54s := hJ (show BX 35 x54 w.heap.size #[.bool false, .slice none 0 0, .bool false, .slice none 0 0] by rw [← HE54.out]; exact BX.put HQ36x0w10.out _ _)
  have HC0_11 := hJ (show Below w.heap.size w x54 by rw [← HE54.out]; exact below_sto (bt (bt (bt (bt (bt (bt (bt (bt (bt HB36.out HB37.out) HB38.out) HB39.out) HB40.out) HB41.out) HB44.out) HB47.out) HB52.out) HB53.out) HG36x0.out _ _)
  go_wp2
  clear fz54_0 fc54_0 fz54_1 fc54_1 fz54_2 fc54_2 fz54_3 fc54_3 hx54
  exact bodyPost_ret (results_cell1 rfl _ _ _ _ _ _ _ rfl HQ54s.out Tryz.underlying35 rfl F_size) rfl (by rw [HR.out.1, HR.out.2.1, HR.out.2.2]; exact ⟨false, none, 0, 0, false, none, 0, 0, rfl, pf_zero _, HC0_11.out⟩)
 ·have HR := hJ (fq_good HN.out hk)
  obtain ⟨h1, h2, h3, h4, h5⟩ := hk
  have HCA := hJ h1
  have HCB := hJ h2
  clear h1 h2
  have HU := hJ (show cmpI (psV b) 0 = 1 by unfold cmpI; rw [if_neg (by omega), if_pos h3])
  have HO := hJ (show oneB (psV b) = false from decide_eq_false h4)
  have HG := hJ (show oneB ((Nat.gcd (psV a).natAbs (psV b).natAbs : Nat) : Int) = true from decide_eq_true (by omega))
  have HGL := hJ (show ((Nat.gcd (psV a).natAbs (psV b).natAbs : Nat) : Int).natAbs < lim by rw [Int.natAbs_natCast]; exact Nat.lt_of_le_of_lt (Nat.gcd_le_right _ (by omega)) (ps_lim b))
  clear h3 h4 h5
  obtain ⟨x55, hx55⟩ := nmz (w.alloc (.cells #[.bool false, .slice none 0 0, .bool false, .slice none 0 0] 35))
  have HB55 := hJ (show Below w.heap.size w x55 by rw [← hx55]; exact ((Below.refl _ _).alloc (Nat.le_refl _) _))
  have HQ55x0 := hJ (show BX 35 x55 w.heap.size #[.bool false, .slice none 0 0, .bool false, .slice none 0 0] by rw [← hx55]; exact (BX.at rfl))
  have HG55x0 := hJ (show w.heap.size ≤ w.heap.size by omega)
  have HL55x0 := hJ (show w.heap.size < x55.heap.size from HQ55x0.out.lt)
  go_enter Tryz.func53, Tryz.ntmps53
  go_wp2_with fail
  clear hx55
  refine (cut_yes_any a b (Nat.le_trans HS.out (by decide)) HN.out x55).mono ?_
  rintro e w56 ⟨rfl, hb⟩
  have HB56 := hJ hb
  clear hb
  go_wp2_with fail
  refine (pparse_any a w56 HLA.out).mono ?_
  rw [HCA.out]
  rintro e w57 ⟨s21, A21, n21, c21, rfl, hr21, hb⟩
  have HB57 := hJ hb
  have HR57hr21 := hJ hr21
  clear hb hr21
  obtain ⟨x58, hx58⟩ := nmz (w57.alloc (.cells #[.bool s21, .slice A21 n21 c21] 33))
  have HB58 := hJ (show Below w57.heap.size w57 x58 by rw [← hx58]; exact ((Below.refl _ _).alloc (Nat.le_refl _) _))
  have HQ58x0 := hJ (show BX 33 x58 w57.heap.size #[.bool s21, .slice A21 n21 c21] by rw [← hx58]; exact (BX.at rfl))
  have HG58x0 := hJ (show w57.heap.size ≤ w57.heap.size by omega)
  have HL58x0 := hJ (show w57.heap.size < x58.heap.size from HQ58x0.out.lt)
  go_wp2_with fail
  clear hx58
  refine (pparse_any b x58 HLB.out).mono ?_
  rw [HCB.out]
  rintro e w59 ⟨s22, A22, n22, c22, rfl, hr22, hb⟩
  have HB59 := hJ hb
  have HR59hr22 := hJ hr22
  clear hb hr22
  obtain ⟨x60, hx60⟩ := nmz (w59.alloc (.cells #[.bool s22, .slice A22 n22 c22] 33))
  have HB60 := hJ (show Below w59.heap.size w59 x60 by rw [← hx60]; exact ((Below.refl _ _).alloc (Nat.le_refl _) _))
  have HQ60x0 := hJ (show BX 33 x60 w59.heap.size #[.bool s22, .slice A22 n22 c22] by rw [← hx60]; exact (BX.at rfl))
  have HG60x0 := hJ (show w59.heap.size ≤ w59.heap.size by omega)
  have HL60x0 := hJ (show w59.heap.size < x60.heap.size from HQ60x0.out.lt)
  obtain ⟨cl61, cl62⟩ := HQ60x0.out.c2 0 1 rfl rfl
  have HR59hr22w6 := hJ (PIo.new HR59hr22.out HB60.out)
  go_wp2_with fail
  clear hx60 cl61 cl62
  refine (sign_any (psV b) s22 A22 n22 c22 x60 HR59hr22w6.out (Nat.le_trans (plim HR59hr22w6.out (ps_lim b)) (by decide))).mono ?_
  rw [HU.out]
  rintro e w63 ⟨rfl, hb⟩
  have HB63 := hJ hb
  clear hb
  have HQ60x0w7 := hJ (BX.new HQ60x0.out HB63.out)
  obtain ⟨cl64, cl65⟩ := HQ60x0w7.out.c2 0 1 rfl rfl
  have HR59hr22w7 := hJ (PIo.new HR59hr22w6.out HB63.out)
  go_wp2_with fail
  clear cl64 cl65
  refine (isone_any (psV b) s22 A22 n22 c22 w63 HR59hr22w7.out (Nat.le_trans (plim HR59hr22w7.out (ps_lim b)) (by decide))).mono ?_
  rw [HO.out]
  rintro e w66 ⟨rfl, hb⟩
  have HB66 := hJ hb
  clear hb
  have HC4_8 := hJ (bt (bt (bt HB59.out HB60.out) HB63.out) HB66.out)
  have HQ58x0w8 := hJ (BX.new HQ58x0.out HC4_8.out)
  obtain ⟨cl67, cl68⟩ := HQ58x0w8.out.c2 0 1 rfl rfl
  have HQ60x0w8 := hJ (BX.new HQ60x0w7.out HB66.out)
  obtain ⟨cl69, cl70⟩ := HQ60x0w8.out.c2 0 1 rfl rfl
  have HC3_8 := hJ (bt (bt (bt (bt HB58.out HB59.out) HB60.out) HB63.out) HB66.out)
  have HR57hr21w8 := hJ (PIo.new HR57hr21.out HC3_8.out)
  have HR59hr22w8 := hJ (PIo.new HR59hr22w7.out HB66.out)
  go_wp2_with fail
  clear cl67 cl68 cl69 cl70
  refine (fcommon_any (psV a) (psV b) s21 s22 A21 A22 n21 c21 n22 c22 w66 HR57hr21w8.out HR59hr22w8.out (Nat.le_trans (plim HR57hr21w8.out (ps_lim a)) (by decide)) (Nat.le_trans (plim HR59hr22w8.out (ps_lim b)) (by decide))).mono ?_
  rintro e w71 ⟨s23, A23, n23, c23, rfl, hr23, hb⟩
  have HB71 := hJ hb
  have HR71hr23 := hJ hr23
  clear hb hr23
  go_wp2_with fail
  refine (isone_any (((Nat.gcd (psV a).natAbs (psV b).natAbs : Nat) : Int)) s23 A23 n23 c23 w71 HR71hr23.out (Nat.le_trans (plim HR71hr23.out HGL.out) (by decide))).mono ?_
  rw [HG.out]
  rintro e w72 ⟨rfl, hb⟩
  have HB72 := hJ hb
  clear hb
  have HC8_10 := hJ (bt HB71.out HB72.out)
  have HQ58x0w10 := hJ (BX.new HQ58x0w8.out HC8_10.out)
  obtain ⟨cl73, cl74⟩ := HQ58x0w10.out.c2 0 1 rfl rfl
  have HQ60x0w10 := hJ (BX.new HQ60x0w8.out HC8_10.out)
  obtain ⟨cl75, cl76⟩ := HQ60x0w10.out.c2 0 1 rfl rfl
  have HR57hr21w10 := hJ (PIo.new HR57hr21w8.out HC8_10.out)
  have HR59hr22w10 := hJ (PIo.new HR59hr22w8.out HC8_10.out)
  go_wp2_with fail
  clear cl73 cl74 cl75 cl76
  refine (flowest_any (psV a) (psV b) s21 s22 A21 A22 n21 c21 n22 c22 w72 HR57hr21w10.out HR59hr22w10.out (Nat.le_trans (plim HR59hr22w10.out (ps_lim b)) (by decide))).mono ?_
  rintro e w77 ⟨s24, A24, n24, c24, t24, B24, m24, d24, rfl, hr24, hb⟩
  have HB77 := hJ hb
  have HR77hr24 := hJ hr24
  clear hb hr24
  have HC1_11 := hJ (bt (bt (bt (bt (bt (bt (bt (bt (bt HB56.out HB57.out) HB58.out) HB59.out) HB60.out) HB63.out) HB66.out) HB71.out) HB72.out) HB77.out)
  have HQ55x0w11 := hJ (BX.new HQ55x0.out HC1_11.out)
  have fz78_0 := HQ55x0w11.out.frozen 0
  have fc78_0 := HQ55x0w11.out.cell 0 rfl
  have fz78_1 := HQ55x0w11.out.frozen 1
  have fc78_1 := HQ55x0w11.out.cell 1 rfl
  have fz78_2 := HQ55x0w11.out.frozen 2
  have fc78_2 := HQ55x0w11.out.cell 2 rfl
  have fz78_3 := HQ55x0w11.out.frozen 3
  have fc78_3 := HQ55x0w11.out.cell 3 rfl
  obtain ⟨x78, hx78⟩ := nmz (World.setCell (World.setCell (World.setCell (World.setCell w77 ⟨w.heap.size, 0, none⟩ (.bool s24)) ⟨w.heap.size, 1, none⟩ (.slice A24 n24 c24)) ⟨w.heap.size, 2, none⟩ (.bool t24)) ⟨w.heap.size, 3, none⟩ (.slice B24 m24 d24))
  have HE78 := hJ (show sto w77 w.heap.size 0 [.bool s24, .slice A24 n24 c24, .bool t24, .slice B24 m24 d24] = x78 from hx78)
  have HQ78s := hJ (show BX 35 x78 w.heap.size #[.bool s24, .slice A24 n24 c24, .bool t24, .slice B24 m24 d24] by rw [← HE78.out]; exact BX.put HQ55x0w11.out _ _)
  have HC0_12 := hJ (show Below w.heap.size w x78 by rw [← HE78.out]; exact below_sto (bt (bt (bt (bt (bt (bt (bt (bt (bt (bt HB55.out HB56.out) HB57.out) HB58.out) HB59.out) HB60.out) HB63.out) HB66.out) HB71.out) HB72.out) HB77.out) HG55x0.out _ _)
  have HR77hr24w12 := hJ (show PF x78 s24 A24 n24 c24 t24 B24 m24 d24 (psV a) (psV b) by rw [← HE78.out]; exact PF.sto HR77hr24.out HQ55x0w11.out rfl _ _)
  go_wp2
  clear fz78_0 fc78_0 fz78_1 fc78_1 fz78_2 fc78_2 fz78_3 fc78_3 hx78
  exact bodyPost_ret (results_cell1 rfl _ _ _ _ _ _ _ rfl HQ78s.out Tryz.underlying35 rfl F_size) rfl (by rw [HR.out.1, HR.out.2.1, HR.out.2.2]; exact ⟨s24, A24, n24, c24, t24, B24, m24, d24, rfl, HR77hr24w12.out, HC0_12.out⟩)
set_option maxRecDepth 100000 in
set_option maxHeartbeats 1600000 in
theorem fparse_no (l : List UInt8) (w : World) (hs : l.length ≤ 100000) (h : (47 : UInt8) ∉ l) :
  Calls Tryz.prog 53 #[.string ⟨l.toArray⟩] w (RetFE (fqP l) (fqQ l) (fqC l) w) := by
 have HS := hJ hs
 have HN := hJ h
 clear hs h
 by_cases h1 : psC l = 0
 ·have HR := hJ (show fqP l = psV l ∧ fqQ l = 1 ∧ fqC l = 0 by obtain ⟨e1, e2, e3⟩ := fq_no HN.out; rw [e1, e2, e3, if_pos h1, if_pos h1]; exact ⟨rfl, rfl, rfl⟩)
  have HCA := hJ h1
  clear h1
  obtain ⟨x1, hx1⟩ := nmz (w.alloc (.cells #[.bool false, .slice none 0 0, .bool false, .slice none 0 0] 35))
  have HB1 := hJ (show Below w.heap.size w x1 by rw [← hx1]; exact ((Below.refl _ _).alloc (Nat.le_refl _) _))
  have HQ1x0 := hJ (show BX 35 x1 w.heap.size #[.bool false, .slice none 0 0, .bool false, .slice none 0 0] by rw [← hx1]; exact (BX.at rfl))
  have HG1x0 := hJ (show w.heap.size ≤ w.heap.size by omega)
  have HL1x0 := hJ (show w.heap.size < x1.heap.size from HQ1x0.out.lt)
  go_enter Tryz.func53, Tryz.ntmps53
  go_wp2_with fail
  clear hx1
  refine (cut_no_any l (Nat.le_trans HS.out (by decide)) HN.out x1).mono ?_
  rintro e w2 ⟨rfl, hb⟩
  have HB2 := hJ hb
  clear hb
  go_wp2_with fail
  refine (pparse_any l w2 HS.out).mono ?_
  rw [HCA.out]
  rintro e w3 ⟨s11, A11, n11, c11, rfl, hr11, hb⟩
  have HB3 := hJ hb
  have HR3hr11 := hJ hr11
  clear hb hr11
  obtain ⟨x4, hx4⟩ := nmz (w3.alloc (.cells #[.bool s11, .slice A11 n11 c11] 33))
  have HB4 := hJ (show Below w3.heap.size w3 x4 by rw [← hx4]; exact ((Below.refl _ _).alloc (Nat.le_refl _) _))
  have HQ4x0 := hJ (show BX 33 x4 w3.heap.size #[.bool s11, .slice A11 n11 c11] by rw [← hx4]; exact (BX.at rfl))
  have HG4x0 := hJ (show w3.heap.size ≤ w3.heap.size by omega)
  have HL4x0 := hJ (show w3.heap.size < x4.heap.size from HQ4x0.out.lt)
  obtain ⟨cl5, cl6⟩ := HQ4x0.out.c2 0 1 rfl rfl
  have HC1_4 := hJ (bt (bt HB2.out HB3.out) HB4.out)
  have HQ1x0w4 := hJ (BX.new HQ1x0.out HC1_4.out)
  have fz7_0 := HQ1x0w4.out.frozen 0
  have fc7_0 := HQ1x0w4.out.cell 0 rfl
  have fz7_1 := HQ1x0w4.out.frozen 1
  have fc7_1 := HQ1x0w4.out.cell 1 rfl
  have fz7_2 := HQ1x0w4.out.frozen 2
  have fc7_2 := HQ1x0w4.out.cell 2 rfl
  have fz7_3 := HQ1x0w4.out.frozen 3
  have fc7_3 := HQ1x0w4.out.cell 3 rfl
  obtain ⟨x7, hx7⟩ := nmz (World.setCell (World.setCell (World.setCell (World.setCell x4 ⟨w.heap.size, 0, none⟩ (.bool s11)) ⟨w.heap.size, 1, none⟩ (.slice A11 n11 c11)) ⟨w.heap.size, 2, none⟩ (.bool false)) ⟨w.heap.size, 3, none⟩ (.slice none 0 0))
  have HE7 := hJ (show sto x4 w.heap.size 0 [.bool s11, .slice A11 n11 c11, .bool false, .slice none 0 0] = x7 from hx7)
  have HQ7s := hJ (show BX 35 x7 w.heap.size #[.bool s11, .slice A11 n11 c11, .bool false, .slice none 0 0] by rw [← HE7.out]; exact BX.put HQ1x0w4.out _ _)
  have HC0_5 := hJ (show Below w.heap.size w x7 by rw [← HE7.out]; exact below_sto (bt (bt (bt HB1.out HB2.out) HB3.out) HB4.out) HG1x0.out _ _)
  have HR3hr11w4 := hJ (PIo.new HR3hr11.out HB4.out)
  have HR3hr11w5 := hJ (show PI x7 s11 A11 n11 c11 (psV l) by rw [← HE7.out]; exact PIo.sto HR3hr11w4.out HQ1x0w4.out rfl _ _)
  go_wp2
  clear hx4 cl5 cl6 fz7_0 fc7_0 fz7_1 fc7_1 fz7_2 fc7_2 fz7_3 fc7_3 hx7
  exact bodyPost_ret (results_cell1 rfl _ _ _ _ _ _ _ rfl HQ7s.out Tryz.underlying35 rfl F_size) rfl (by rw [HR.out.1, HR.out.2.1, HR.out.2.2]; exact ⟨s11, A11, n11, c11, false, none, 0, 0, rfl, ⟨HR3hr11w5.out, PI.zero _⟩, HC0_5.out⟩)
 ·have HR := hJ (show fqP l = 0 ∧ fqQ l = 1 ∧ fqC l = 2 by obtain ⟨e1, e2, e3⟩ := fq_no HN.out; rw [e1, e2, e3, if_neg h1, if_neg h1]; exact ⟨rfl, rfl, rfl⟩)
  obtain ⟨ca, hca⟩ := nmz (psC l)
  have HCA := hJ hca
  rw [hca] at h1
  clear hca
  obtain ⟨x8, hx8⟩ := nmz (w.alloc (.cells #[.bool false, .slice none 0 0, .bool false, .slice none 0 0] 35))
  have HB8 := hJ (show Below w.heap.size w x8 by rw [← hx8]; exact ((Below.refl _ _).alloc (Nat.le_refl _) _))
  have HQ8x0 := hJ (show BX 35 x8 w.heap.size #[.bool false, .slice none 0 0, .bool false, .slice none 0 0] by rw [← hx8]; exact (BX.at rfl))
  have HG8x0 := hJ (show w.heap.size ≤ w.heap.size by omega)
  have HL8x0 := hJ (show w.heap.size < x8.heap.size from HQ8x0.out.lt)
  go_enter Tryz.func53, Tryz.ntmps53
  go_wp2_with fail
  clear hx8
  refine (cut_no_any l (Nat.le_trans HS.out (by decide)) HN.out x8).mono ?_
  rintro e w9 ⟨rfl, hb⟩
  have HB9 := hJ hb
  clear hb
  go_wp2_with fail
  refine (pparse_any l w9 HS.out).mono ?_
  rw [HCA.out]
  rintro e w10 ⟨s12, A12, n12, c12, rfl, hr12, hb⟩
  have HB10 := hJ hb
  have HR10hr12 := hJ hr12
  clear hb hr12
  obtain ⟨x11, hx11⟩ := nmz (w10.alloc (.cells #[.bool s12, .slice A12 n12 c12] 33))
  have HB11 := hJ (show Below w10.heap.size w10 x11 by rw [← hx11]; exact ((Below.refl _ _).alloc (Nat.le_refl _) _))
  have HQ11x0 := hJ (show BX 33 x11 w10.heap.size #[.bool s12, .slice A12 n12 c12] by rw [← hx11]; exact (BX.at rfl))
  have HG11x0 := hJ (show w10.heap.size ≤ w10.heap.size by omega)
  have HL11x0 := hJ (show w10.heap.size < x11.heap.size from HQ11x0.out.lt)
  have HC1_4 := hJ (bt (bt HB9.out HB10.out) HB11.out)
  have HQ8x0w4 := hJ (BX.new HQ8x0.out HC1_4.out)
  have fz12_0 := HQ8x0w4.out.frozen 0
  have fc12_0 := HQ8x0w4.out.cell 0 rfl
  have fz12_1 := HQ8x0w4.out.frozen 1
  have fc12_1 := HQ8x0w4.out.cell 1 rfl
  have fz12_2 := HQ8x0w4.out.frozen 2
  have fc12_2 := HQ8x0w4.out.cell 2 rfl
  have fz12_3 := HQ8x0w4.out.frozen 3
  have fc12_3 := HQ8x0w4.out.cell 3 rfl
  obtain ⟨x12, hx12⟩ := nmz (World.setCell (World.setCell (World.setCell (World.setCell x11 ⟨w.heap.size, 0, none⟩ (.bool false)) ⟨w.heap.size, 1, none⟩ (.slice none 0 0)) ⟨w.heap.size, 2, none⟩ (.bool false)) ⟨w.heap.size, 3, none⟩ (.slice none 0 0))
  have HE12 := hJ (show sto x11 w.heap.size 0 [.bool false, .slice none 0 0, .bool false, .slice none 0 0] = x12 from hx12)
  have HQ12s := hJ (show BX 35 x12 w.heap.size #[.bool false, .slice none 0 0, .bool false, .slice none 0 0] by rw [← HE12.out]; exact BX.put HQ8x0w4.out _ _)
  have HC0_5 := hJ (show Below w.heap.size w x12 by rw [← HE12.out]; exact below_sto (bt (bt (bt HB8.out HB9.out) HB10.out) HB11.out) HG8x0.out _ _)
  go_wp2
  clear hx11 fz12_0 fc12_0 fz12_1 fc12_1 fz12_2 fc12_2 fz12_3 fc12_3 hx12
  exact bodyPost_ret (results_cell1 rfl _ _ _ _ _ _ _ rfl HQ12s.out Tryz.underlying35 rfl F_size) rfl (by rw [HR.out.1, HR.out.2.1, HR.out.2.2]; exact ⟨false, none, 0, 0, false, none, 0, 0, rfl, pf_zero _, HC0_5.out⟩)
theorem fparse_any (l : List UInt8) (w : World) (hs : l.length ≤ 100000) :
  Calls Tryz.prog 53 #[.string ⟨l.toArray⟩] w (RetFE (fqP l) (fqQ l) (fqC l) w) := by
 rcases slash_cases l with h | ⟨a, b, rfl, h⟩
 ·exact fparse_no l w hs h
 ·exact fparse_yes a b w hs h
end Go.Proofs.YtbhnaffbgggabaaGreat
