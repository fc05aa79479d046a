/- Contract: doubledArea over integers. Conditions: as the statement has them. -/
import Derived.Test.YtdamadkhbeonaaaED
import Derived.Test.YtdamadkhbeonaaaEF
import Derived.Laws.EntriesVeiled
namespace Go.Proofs.Ytdamadkhbeonaaa
open Go.RowKit
attribute [local go_sem ↓] Go.wp_at_zero Go.wp_at_succ
set_option linter.unusedVariables false
set_option linter.unusedSimpArgs false
set_option maxRecDepth 100000 in
set_option maxHeartbeats 6400000 in
theorem darea_any (xa ya xb yb xc yc : Int) (s0 : Bool) (A0 : Option Addr) (n0 c0 : Nat) (s1 : Bool) (A1 : Option Addr) (n1 c1 : Nat) (s2 : Bool) (A2 : Option Addr) (n2 c2 : Nat) (s3 : Bool) (A3 : Option Addr) (n3 c3 : Nat) (s4 : Bool) (A4 : Option Addr) (n4 c4 : Nat) (s5 : Bool) (A5 : Option Addr) (n5 c5 : Nat) (w : World) (h0 : PI w s0 A0 n0 c0 xa) (h1 : PI w s1 A1 n1 c1 ya) (h2 : PI w s2 A2 n2 c2 xb) (h3 : PI w s3 A3 n3 c3 yb) (h4 : PI w s4 A4 n4 c4 xc) (h5 : PI w s5 A5 n5 c5 yc) (hn : Nk 1180591620717411303424 xa ∧ Nk 1180591620717411303424 ya ∧ Nk 1180591620717411303424 xb ∧ Nk 1180591620717411303424 yb ∧ Nk 1180591620717411303424 xc ∧ Nk 1180591620717411303424 yc) :
  Calls Try.prog 23 #[.func (.func 24) #[] #[], .func (.func 25) #[] #[], .agg #[.bool s0, .slice A0 n0 c0, .bool s1, .slice A1 n1 c1], .agg #[.bool s2, .slice A2 n2 c2, .bool s3, .slice A3 n3 c3], .agg #[.bool s4, .slice A4 n4 c4, .bool s5, .slice A5 n5 c5]] w (RetPE ((xb - xa) * (yc - ya) - (yb - ya) * (xc - xa)) 0 w) := by
 have HP0 := hJ h0
 have HP1 := hJ h1
 have HP2 := hJ h2
 have HP3 := hJ h3
 have HP4 := hJ h4
 have HP5 := hJ h5
 have HN := hJ hn
 clear hn h0 h1 h2 h3 h4 h5
 have HD := hJ (show (Nk (2 * 1180591620717411303424) (xb - xa) ∧ Nk (2 * 1180591620717411303424) (yc - ya)) ∧ (Nk (2 * 1180591620717411303424) (yb - ya) ∧ Nk (2 * 1180591620717411303424) (xc - xa)) by
  obtain ⟨n1, n2, n3, n4, n5, n6⟩ := HN.out
  unfold Nk at *
  omega)
 have HM := hJ (show Nk (2 * 1180591620717411303424 * (2 * 1180591620717411303424)) ((xb - xa) * (yc - ya)) ∧ Nk (2 * 1180591620717411303424 * (2 * 1180591620717411303424)) ((yb - ya) * (xc - xa)) from ⟨nk_mul HD.out.1.1 HD.out.1.2, nk_mul HD.out.2.1 HD.out.2.2⟩)
 have HZ0 := hJ (PI.zero w)
 obtain ⟨x1, hx1⟩ := nmz ((((((w.alloc (.cells #[.func (.func 24) #[] #[]] 51)).alloc (.cells #[.func (.func 25) #[] #[]] 51)).alloc (.cells #[.bool s0, .slice A0 n0 c0, .bool s1, .slice A1 n1 c1] 52)).alloc (.cells #[.bool s2, .slice A2 n2 c2, .bool s3, .slice A3 n3 c3] 52)).alloc (.cells #[.bool s4, .slice A4 n4 c4, .bool s5, .slice A5 n5 c5] 52)).alloc (.cells #[.bool false, .slice none 0 0] 48))
 have HB1 := hJ (show Below w.heap.size w x1 by rw [← hx1]; exact (((((((Below.refl _ _).alloc (Nat.le_refl _) _).alloc (by simp only [World.size_alloc]; omega) _).alloc (by simp only [World.size_alloc]; omega) _).alloc (by simp only [World.size_alloc]; omega) _).alloc (by simp only [World.size_alloc]; omega) _).alloc (by simp only [World.size_alloc]; omega) _))
 have HQ1x0 := hJ (show BX 51 x1 w.heap.size #[.func (.func 24) #[] #[]] by rw [← hx1]; exact ((((((BX.at rfl).alloc _).alloc _).alloc _).alloc _).alloc _))
 have HG1x0 := hJ (show w.heap.size ≤ w.heap.size by omega)
 have HL1x0 := hJ (show w.heap.size < x1.heap.size from HQ1x0.out.lt)
 have HQ1x1 := hJ (show BX 51 x1 (w.heap.size + 1) #[.func (.func 25) #[] #[]] by rw [← hx1]; exact (((((BX.at (by simp only [World.size_alloc])).alloc _).alloc _).alloc _).alloc _))
 have HG1x1 := hJ (show w.heap.size ≤ w.heap.size + 1 by omega)
 have HL1x1 := hJ (show w.heap.size + 1 < x1.heap.size from HQ1x1.out.lt)
 have HQ1x2 := hJ (show BX 52 x1 (w.heap.size + 2) #[.bool s0, .slice A0 n0 c0, .bool s1, .slice A1 n1 c1] by rw [← hx1]; exact ((((BX.at (by simp only [World.size_alloc])).alloc _).alloc _).alloc _))
 have HG1x2 := hJ (show w.heap.size ≤ w.heap.size + 2 by omega)
 have HL1x2 := hJ (show w.heap.size + 2 < x1.heap.size from HQ1x2.out.lt)
 have HQ1x3 := hJ (show BX 52 x1 (w.heap.size + 3) #[.bool s2, .slice A2 n2 c2, .bool s3, .slice A3 n3 c3] by rw [← hx1]; exact (((BX.at (by simp only [World.size_alloc])).alloc _).alloc _))
 have HG1x3 := hJ (show w.heap.size ≤ w.heap.size + 3 by omega)
 have HL1x3 := hJ (show w.heap.size + 3 < x1.heap.size from HQ1x3.out.lt)
 have HQ1x4 := hJ (show BX 52 x1 (w.heap.size + 4) #[.bool s4, .slice A4 n4 c4, .bool s5, .slice A5 n5 c5] by rw [← hx1]; exact ((BX.at (by simp only [World.size_alloc])).alloc _))
 have HG1x4 := hJ (show w.heap.size ≤ w.heap.size + 4 by omega)
 have HL1x4 := hJ (show w.heap.size + 4 < x1.heap.size from HQ1x4.out.lt)
 have HQ1x5 := hJ (show BX 48 x1 (w.heap.size + 5) #[.bool false, .slice none 0 0] by rw [← hx1]; exact (BX.at (by simp only [World.size_alloc])))
 have HG1x5 := hJ (show w.heap.size ≤ w.heap.size + 5 by omega)
 have HL1x5 := hJ (show w.heap.size + 5 < x1.heap.size from HQ1x5.out.lt)
 obtain ⟨x2, hx2⟩ := nmz ((x1.alloc (.cells #[.bool false, .slice none 0 0, .bool false, .slice none 0 0, .bool false, .slice none 0 0, .bool false, .slice none 0 0, .bool false, .slice none 0 0, .bool false, .slice none 0 0, .bool false, .slice none 0 0] 58)).alloc (.cells #[.func (.func 35) #[] #[.pointer (some ⟨w.heap.size, 0, none⟩), .pointer (some ⟨w.heap.size + 3, 0, none⟩), .pointer (some ⟨w.heap.size + 2, 0, none⟩)], .func (.func 36) #[] #[.pointer (some ⟨w.heap.size, 0, none⟩), .pointer (some ⟨w.heap.size + 4, 0, none⟩), .pointer (some ⟨w.heap.size + 2, 0, none⟩)], .func (.func 37) #[] #[.pointer (some ⟨w.heap.size + 1, 0, none⟩), .pointer (some ⟨x1.heap.size, 0, none⟩)], .func (.func 38) #[] #[.pointer (some ⟨w.heap.size, 0, none⟩), .pointer (some ⟨w.heap.size + 3, 0, none⟩), .pointer (some ⟨w.heap.size + 2, 0, none⟩)], .func (.func 39) #[] #[.pointer (some ⟨w.heap.size, 0, none⟩), .pointer (some ⟨w.heap.size + 4, 0, none⟩), .pointer (some ⟨w.heap.size + 2, 0, none⟩)], .func (.func 40) #[] #[.pointer (some ⟨w.heap.size + 1, 0, none⟩), .pointer (some ⟨x1.heap.size, 0, none⟩)], .func (.func 41) #[] #[.pointer (some ⟨w.heap.size, 0, none⟩), .pointer (some ⟨x1.heap.size, 0, none⟩)]] 60))
 have HB2 := hJ (show Below x1.heap.size x1 x2 by rw [← hx2]; exact (((Below.refl _ _).alloc (Nat.le_refl _) _).alloc (by simp only [World.size_alloc]; omega) _))
 have HQ2x0 := hJ (show BX 58 x2 x1.heap.size #[.bool false, .slice none 0 0, .bool false, .slice none 0 0, .bool false, .slice none 0 0, .bool false, .slice none 0 0, .bool false, .slice none 0 0, .bool false, .slice none 0 0, .bool false, .slice none 0 0] by rw [← hx2]; exact ((BX.at rfl).alloc _))
 have HG2x0 := hJ (show x1.heap.size ≤ x1.heap.size by omega)
 have HL2x0 := hJ (show x1.heap.size < x2.heap.size from HQ2x0.out.lt)
 have HQ2x1 := hJ (show BX 60 x2 (x1.heap.size + 1) #[.func (.func 35) #[] #[.pointer (some ⟨w.heap.size, 0, none⟩), .pointer (some ⟨w.heap.size + 3, 0, none⟩), .pointer (some ⟨w.heap.size + 2, 0, none⟩)], .func (.func 36) #[] #[.pointer (some ⟨w.heap.size, 0, none⟩), .pointer (some ⟨w.heap.size + 4, 0, none⟩), .pointer (some ⟨w.heap.size + 2, 0, none⟩)], .func (.func 37) #[] #[.pointer (some ⟨w.heap.size + 1, 0, none⟩), .pointer (some ⟨x1.heap.size, 0, none⟩)], .func (.func 38) #[] #[.pointer (some ⟨w.heap.size, 0, none⟩), .pointer (some ⟨w.heap.size + 3, 0, none⟩), .pointer (some ⟨w.heap.size + 2, 0, none⟩)], .func (.func 39) #[] #[.pointer (some ⟨w.heap.size, 0, none⟩), .pointer (some ⟨w.heap.size + 4, 0, none⟩), .pointer (some ⟨w.heap.size + 2, 0, none⟩)], .func (.func 40) #[] #[.pointer (some ⟨w.heap.size + 1, 0, none⟩), .pointer (some ⟨x1.heap.size, 0, none⟩)], .func (.func 41) #[] #[.pointer (some ⟨w.heap.size, 0, none⟩), .pointer (some ⟨x1.heap.size, 0, none⟩)]] by rw [← hx2]; exact (BX.at (by simp only [World.size_alloc])))
 have HG2x1 := hJ (show x1.heap.size ≤ x1.heap.size + 1 by omega)
 have HL2x1 := hJ (show x1.heap.size + 1 < x2.heap.size from HQ2x1.out.lt)
 have cl3 := HQ2x1.out.cell 0 rfl
 have cl4 := HQ2x1.out.cell 1 rfl
 have cl5 := HQ2x1.out.cell 2 rfl
 have cl6 := HQ2x1.out.cell 3 rfl
 have cl7 := HQ2x1.out.cell 4 rfl
 have cl8 := HQ2x1.out.cell 5 rfl
 have cl9 := HQ2x1.out.cell 6 rfl
 have HC0_2 := hJ (bt HB1.out HB2.out)
 have HZ0w2 := hJ (PIo.new HZ0.out HC0_2.out)
 go_enter Try.func23, Try.ntmps23
 go_wp2_with fail
 clear hx1 hx2 cl3 cl4 cl5 cl6 cl7 cl8 cl9
 go_loopw [27] (fun tv wr => ∃ (i : Nat) (zb10_0_0 : Bool) (zA10_0_1 : Option Addr) (zn10_0_1 : Nat) (zc10_0_1 : Nat) (zb10_0_2 : Bool) (zA10_0_3 : Option Addr) (zn10_0_3 : Nat) (zc10_0_3 : Nat) (zb10_0_4 : Bool) (zA10_0_5 : Option Addr) (zn10_0_5 : Nat) (zc10_0_5 : Nat) (zb10_0_6 : Bool) (zA10_0_7 : Option Addr) (zn10_0_7 : Nat) (zc10_0_7 : Nat) (zb10_0_8 : Bool) (zA10_0_9 : Option Addr) (zn10_0_9 : Nat) (zc10_0_9 : Nat) (zb10_0_10 : Bool) (zA10_0_11 : Option Addr) (zn10_0_11 : Nat) (zc10_0_11 : Nat) (zb10_0_12 : Bool) (zA10_0_13 : Option Addr) (zn10_0_13 : Nat) (zc10_0_13 : Nat) (z0_10 : Int) (z1_10 : Int) (z2_10 : Int) (z3_10 : Int) (z4_10 : Int) (z5_10 : Int) (z6_10 : Int), i ≤ 7 ∧ tv = .int .i64 (i : Int) ∧ BX 58 wr x1.heap.size #[.bool zb10_0_0, .slice zA10_0_1 zn10_0_1 zc10_0_1, .bool zb10_0_2, .slice zA10_0_3 zn10_0_3 zc10_0_3, .bool zb10_0_4, .slice zA10_0_5 zn10_0_5 zc10_0_5, .bool zb10_0_6, .slice zA10_0_7 zn10_0_7 zc10_0_7, .bool zb10_0_8, .slice zA10_0_9 zn10_0_9 zc10_0_9, .bool zb10_0_10, .slice zA10_0_11 zn10_0_11 zc10_0_11, .bool zb10_0_12, .slice zA10_0_13 zn10_0_13 zc10_0_13] ∧ PI wr zb10_0_0 zA10_0_1 zn10_0_1 zc10_0_1 z0_10 ∧ PI wr zb10_0_2 zA10_0_3 zn10_0_3 zc10_0_3 z1_10 ∧ PI wr zb10_0_4 zA10_0_5 zn10_0_5 zc10_0_5 z2_10 ∧ PI wr zb10_0_6 zA10_0_7 zn10_0_7 zc10_0_7 z3_10 ∧ PI wr zb10_0_8 zA10_0_9 zn10_0_9 zc10_0_9 z4_10 ∧ PI wr zb10_0_10 zA10_0_11 zn10_0_11 zc10_0_11 z5_10 ∧ PI wr zb10_0_12 zA10_0_13 zn10_0_13 zc10_0_13 z6_10 ∧ Hid ((0 < i → z0_10 = xb - xa) ∧ (1 < i → z1_10 = yc - ya) ∧ (2 < i → z2_10 = (xb - xa) * (yc - ya)) ∧ (3 < i → z3_10 = yb - ya) ∧ (4 < i → z4_10 = xc - xa) ∧ (5 < i → z5_10 = (yb - ya) * (xc - xa)) ∧ (6 < i → z6_10 = ((xb - xa) * (yc - ya)) - ((yb - ya) * (xc - xa)))) ∧ Below x1.heap.size x1 wr) (fun tv _ => 7 - (intOf tv).toNat)
 case atStart => exact ⟨0, false, none, 0, 0, false, none, 0, 0, false, none, 0, 0, false, none, 0, 0, false, none, 0, 0, false, none, 0, 0, false, none, 0, 0, 0, 0, 0, 0, 0, 0, 0, by omega, rfl, HQ2x0.out, HZ0w2.out, HZ0w2.out, HZ0w2.out, HZ0w2.out, HZ0w2.out, HZ0w2.out, HZ0w2.out, hJ (⟨fun h => absurd h (by decide), fun h => absurd h (by decide), fun h => absurd h (by decide), fun h => absurd h (by decide), fun h => absurd h (by decide), fun h => absurd h (by decide), fun h => absurd h (by decide)⟩), HB2.out⟩
 case round =>
  obtain ⟨i10, zb10_0_0, zA10_0_1, zn10_0_1, zc10_0_1, zb10_0_2, zA10_0_3, zn10_0_3, zc10_0_3, zb10_0_4, zA10_0_5, zn10_0_5, zc10_0_5, zb10_0_6, zA10_0_7, zn10_0_7, zc10_0_7, zb10_0_8, zA10_0_9, zn10_0_9, zc10_0_9, zb10_0_10, zA10_0_11, zn10_0_11, zc10_0_11, zb10_0_12, zA10_0_13, zn10_0_13, zc10_0_13, z0_10, z1_10, z2_10, z3_10, z4_10, z5_10, z6_10, hi, rfl, hz10_0, hz10_1, hz10_2, hz10_3, hz10_4, hz10_5, hz10_6, hz10_7, HI10, hbel⟩ := hrel
  obtain ⟨wl10, rfl⟩ : ∃ W : World, W = wr := ⟨_, rfl⟩
  have HBW10 := hJ hbel
  have HZ10_0 := hJ hz10_0
  have HZ10_1 := hJ hz10_1
  have HZ10_2 := hJ hz10_2
  have HZ10_3 := hJ hz10_3
  have HZ10_4 := hJ hz10_4
  have HZ10_5 := hJ hz10_5
  have HZ10_6 := hJ hz10_6
  have HZ10_7 := hJ hz10_7
  clear hbel hz10_0 hz10_1 hz10_2 hz10_3 hz10_4 hz10_5 hz10_6 hz10_7
  have HBX10_0 := hJ (bt HB1.out HBW10.out)
  have HLW10_0 := hJ HZ10_0.out.lt
  have hcs : i10 = 0 ∨ i10 = 1 ∨ i10 = 2 ∨ i10 = 3 ∨ i10 = 4 ∨ i10 = 5 ∨ i10 = 6 ∨ i10 = 7 := by omega
  clear hi
  rcases hcs with rfl | rfl | rfl | rfl | rfl | rfl | rfl | rfl
  ·(try rw [show ((0 : Nat) : Int) = 0 from rfl])
   have hix : ∀ wx, (Instr.index 60 (.agg #[.func (.func 35) #[] #[.pointer (some ⟨w.heap.size, 0, none⟩), .pointer (some ⟨w.heap.size + 3, 0, none⟩), .pointer (some ⟨w.heap.size + 2, 0, none⟩)], .func (.func 36) #[] #[.pointer (some ⟨w.heap.size, 0, none⟩), .pointer (some ⟨w.heap.size + 4, 0, none⟩), .pointer (some ⟨w.heap.size + 2, 0, none⟩)], .func (.func 37) #[] #[.pointer (some ⟨w.heap.size + 1, 0, none⟩), .pointer (some ⟨x1.heap.size, 0, none⟩)], .func (.func 38) #[] #[.pointer (some ⟨w.heap.size, 0, none⟩), .pointer (some ⟨w.heap.size + 3, 0, none⟩), .pointer (some ⟨w.heap.size + 2, 0, none⟩)], .func (.func 39) #[] #[.pointer (some ⟨w.heap.size, 0, none⟩), .pointer (some ⟨w.heap.size + 4, 0, none⟩), .pointer (some ⟨w.heap.size + 2, 0, none⟩)], .func (.func 40) #[] #[.pointer (some ⟨w.heap.size + 1, 0, none⟩), .pointer (some ⟨x1.heap.size, 0, none⟩)], .func (.func 41) #[] #[.pointer (some ⟨w.heap.size, 0, none⟩), .pointer (some ⟨x1.heap.size, 0, none⟩)]]) (.int .i64 0)).run Try.prog wx = .ok (.func (.func 35) #[] #[.pointer (some ⟨w.heap.size, 0, none⟩), .pointer (some ⟨w.heap.size + 3, 0, none⟩), .pointer (some ⟨w.heap.size + 2, 0, none⟩)]) wx := fun wx => fx7_0 wx
   have HQ1x0w3 := hJ (BX.new HQ1x0.out HBW10.out)
   have HQ1x3w3 := hJ (BX.new HQ1x3.out HBW10.out)
   have HQ1x2w3 := hJ (BX.new HQ1x2.out HBW10.out)
   have HP2w3 := hJ (PIo.new HP2.out HBX10_0.out)
   have HP0w3 := hJ (PIo.new HP0.out HBX10_0.out)
   go_wp2_with fail
   clear hix
   refine (da1_any xb xa s2 A2 n2 c2 s3 A3 n3 c3 s0 A0 n0 c0 s1 A1 n1 c1 w.heap.size (w.heap.size + 3) (w.heap.size + 2) wl10 HQ1x0w3.out HQ1x3w3.out HQ1x2w3.out HP2w3.out HP0w3.out (nk_lim HN.out.2.2.1) (nk_lim HN.out.1) (nk_lim HD.out.1.1)).mono ?_
   rintro e w11 ⟨s11, A11, n11, c11, rfl, hr11, hb⟩
   have HB11 := hJ hb
   have HR11hr11 := hJ hr11
   clear hb hr11
   have HZ10_0w4 := hJ (BX.new HZ10_0.out HB11.out)
   have fz12_0 := HZ10_0w4.out.frozen 0
   have fc12_0 := HZ10_0w4.out.cell 0 rfl
   have fz12_1 := HZ10_0w4.out.frozen 1
   have fc12_1 := HZ10_0w4.out.cell 1 rfl
   have fz12_2 := HZ10_0w4.out.frozen 2
   have fc12_2 := HZ10_0w4.out.cell 2 rfl
   have fz12_3 := HZ10_0w4.out.frozen 3
   have fc12_3 := HZ10_0w4.out.cell 3 rfl
   have fz12_4 := HZ10_0w4.out.frozen 4
   have fc12_4 := HZ10_0w4.out.cell 4 rfl
   have fz12_5 := HZ10_0w4.out.frozen 5
   have fc12_5 := HZ10_0w4.out.cell 5 rfl
   have fz12_6 := HZ10_0w4.out.frozen 6
   have fc12_6 := HZ10_0w4.out.cell 6 rfl
   have fz12_7 := HZ10_0w4.out.frozen 7
   have fc12_7 := HZ10_0w4.out.cell 7 rfl
   have fz12_8 := HZ10_0w4.out.frozen 8
   have fc12_8 := HZ10_0w4.out.cell 8 rfl
   have fz12_9 := HZ10_0w4.out.frozen 9
   have fc12_9 := HZ10_0w4.out.cell 9 rfl
   have fz12_10 := HZ10_0w4.out.frozen 10
   have fc12_10 := HZ10_0w4.out.cell 10 rfl
   have fz12_11 := HZ10_0w4.out.frozen 11
   have fc12_11 := HZ10_0w4.out.cell 11 rfl
   have fz12_12 := HZ10_0w4.out.frozen 12
   have fc12_12 := HZ10_0w4.out.cell 12 rfl
   have fz12_13 := HZ10_0w4.out.frozen 13
   have fc12_13 := HZ10_0w4.out.cell 13 rfl
   obtain ⟨x12, hx12⟩ := nmz (World.setCell (World.setCell w11 ⟨x1.heap.size, 0, none⟩ (.bool s11)) ⟨x1.heap.size, 1, none⟩ (.slice A11 n11 c11))
   have HE12 := hJ (show sto w11 x1.heap.size 0 [.bool s11, .slice A11 n11 c11] = x12 from hx12)
   have HQ12s := hJ (show BX 58 x12 x1.heap.size #[.bool s11, .slice A11 n11 c11, .bool zb10_0_2, .slice zA10_0_3 zn10_0_3 zc10_0_3, .bool zb10_0_4, .slice zA10_0_5 zn10_0_5 zc10_0_5, .bool zb10_0_6, .slice zA10_0_7 zn10_0_7 zc10_0_7, .bool zb10_0_8, .slice zA10_0_9 zn10_0_9 zc10_0_9, .bool zb10_0_10, .slice zA10_0_11 zn10_0_11 zc10_0_11, .bool zb10_0_12, .slice zA10_0_13 zn10_0_13 zc10_0_13] by rw [← HE12.out]; exact BX.put HZ10_0w4.out _ _)
   have HR11hr11w5 := hJ (show PI x12 s11 A11 n11 c11 (xb - xa) by rw [← HE12.out]; exact PIo.sto HR11hr11.out HZ10_0w4.out rfl _ _)
   have HZ10_2w4 := hJ (PIo.new HZ10_2.out HB11.out)
   have HZ10_2w5 := hJ (show PI x12 zb10_0_2 zA10_0_3 zn10_0_3 zc10_0_3 z1_10 by rw [← HE12.out]; exact PIo.sto HZ10_2w4.out HZ10_0w4.out rfl _ _)
   have HZ10_3w4 := hJ (PIo.new HZ10_3.out HB11.out)
   have HZ10_3w5 := hJ (show PI x12 zb10_0_4 zA10_0_5 zn10_0_5 zc10_0_5 z2_10 by rw [← HE12.out]; exact PIo.sto HZ10_3w4.out HZ10_0w4.out rfl _ _)
   have HZ10_4w4 := hJ (PIo.new HZ10_4.out HB11.out)
   have HZ10_4w5 := hJ (show PI x12 zb10_0_6 zA10_0_7 zn10_0_7 zc10_0_7 z3_10 by rw [← HE12.out]; exact PIo.sto HZ10_4w4.out HZ10_0w4.out rfl _ _)
   have HZ10_5w4 := hJ (PIo.new HZ10_5.out HB11.out)
   have HZ10_5w5 := hJ (show PI x12 zb10_0_8 zA10_0_9 zn10_0_9 zc10_0_9 z4_10 by rw [← HE12.out]; exact PIo.sto HZ10_5w4.out HZ10_0w4.out rfl _ _)
   have HZ10_6w4 := hJ (PIo.new HZ10_6.out HB11.out)
   have HZ10_6w5 := hJ (show PI x12 zb10_0_10 zA10_0_11 zn10_0_11 zc10_0_11 z5_10 by rw [← HE12.out]; exact PIo.sto HZ10_6w4.out HZ10_0w4.out rfl _ _)
   have HZ10_7w4 := hJ (PIo.new HZ10_7.out HB11.out)
   have HZ10_7w5 := hJ (show PI x12 zb10_0_12 zA10_0_13 zn10_0_13 zc10_0_13 z6_10 by rw [← HE12.out]; exact PIo.sto HZ10_7w4.out HZ10_0w4.out rfl _ _)
   have HC1_5 := hJ (show Below x1.heap.size x1 x12 by rw [← HE12.out]; exact below_sto (bt HBW10.out HB11.out) HG2x0.out _ _)
   go_wp2_with fail
   clear fz12_0 fc12_0 fz12_1 fc12_1 fz12_2 fc12_2 fz12_3 fc12_3 fz12_4 fc12_4 fz12_5 fc12_5 fz12_6 fc12_6 fz12_7 fc12_7 fz12_8 fc12_8 fz12_9 fc12_9 fz12_10 fc12_10 fz12_11 fc12_11 fz12_12 fc12_12 fz12_13 fc12_13 hx12
   go_roundw
   case rel => exact ⟨0 + 1, s11, A11, n11, c11, zb10_0_2, zA10_0_3, zn10_0_3, zc10_0_3, zb10_0_4, zA10_0_5, zn10_0_5, zc10_0_5, zb10_0_6, zA10_0_7, zn10_0_7, zc10_0_7, zb10_0_8, zA10_0_9, zn10_0_9, zc10_0_9, zb10_0_10, zA10_0_11, zn10_0_11, zc10_0_11, zb10_0_12, zA10_0_13, zn10_0_13, zc10_0_13, (xb - xa), z1_10, z2_10, z3_10, z4_10, z5_10, z6_10, by omega, by go_num, HQ12s.out, HR11hr11w5.out, HZ10_2w5.out, HZ10_3w5.out, HZ10_4w5.out, HZ10_5w5.out, HZ10_6w5.out, HZ10_7w5.out, hJ (⟨fun _ => rfl, fun h => absurd h (by decide), fun h => absurd h (by decide), fun h => absurd h (by decide), fun h => absurd h (by decide), fun h => absurd h (by decide), fun h => absurd h (by decide)⟩), HC1_5.out⟩
   case measure => simp [intOf] <;> omega
  ·(try rw [show ((1 : Nat) : Int) = 1 from rfl])
   obtain rfl : xb - xa = z0_10 := (HI10.out.1 (by decide)).symm
   have hix : ∀ wx, (Instr.index 60 (.agg #[.func (.func 35) #[] #[.pointer (some ⟨w.heap.size, 0, none⟩), .pointer (some ⟨w.heap.size + 3, 0, none⟩), .pointer (some ⟨w.heap.size + 2, 0, none⟩)], .func (.func 36) #[] #[.pointer (some ⟨w.heap.size, 0, none⟩), .pointer (some ⟨w.heap.size + 4, 0, none⟩), .pointer (some ⟨w.heap.size + 2, 0, none⟩)], .func (.func 37) #[] #[.pointer (some ⟨w.heap.size + 1, 0, none⟩), .pointer (some ⟨x1.heap.size, 0, none⟩)], .func (.func 38) #[] #[.pointer (some ⟨w.heap.size, 0, none⟩), .pointer (some ⟨w.heap.size + 3, 0, none⟩), .pointer (some ⟨w.heap.size + 2, 0, none⟩)], .func (.func 39) #[] #[.pointer (some ⟨w.heap.size, 0, none⟩), .pointer (some ⟨w.heap.size + 4, 0, none⟩), .pointer (some ⟨w.heap.size + 2, 0, none⟩)], .func (.func 40) #[] #[.pointer (some ⟨w.heap.size + 1, 0, none⟩), .pointer (some ⟨x1.heap.size, 0, none⟩)], .func (.func 41) #[] #[.pointer (some ⟨w.heap.size, 0, none⟩), .pointer (some ⟨x1.heap.size, 0, none⟩)]]) (.int .i64 1)).run Try.prog wx = .ok (.func (.func 36) #[] #[.pointer (some ⟨w.heap.size, 0, none⟩), .pointer (some ⟨w.heap.size + 4, 0, none⟩), .pointer (some ⟨w.heap.size + 2, 0, none⟩)]) wx := fun wx => fx7_1 wx
   have HQ1x0w3 := hJ (BX.new HQ1x0.out HBW10.out)
   have HQ1x4w3 := hJ (BX.new HQ1x4.out HBW10.out)
   have HQ1x2w3 := hJ (BX.new HQ1x2.out HBW10.out)
   have HP5w3 := hJ (PIo.new HP5.out HBX10_0.out)
   have HP1w3 := hJ (PIo.new HP1.out HBX10_0.out)
   go_wp2_with fail
   clear hix
   refine (da2_any yc ya s4 A4 n4 c4 s5 A5 n5 c5 s0 A0 n0 c0 s1 A1 n1 c1 w.heap.size (w.heap.size + 4) (w.heap.size + 2) wl10 HQ1x0w3.out HQ1x4w3.out HQ1x2w3.out HP5w3.out HP1w3.out (nk_lim HN.out.2.2.2.2.2) (nk_lim HN.out.2.1) (nk_lim HD.out.1.2)).mono ?_
   rintro e w13 ⟨s12, A12, n12, c12, rfl, hr12, hb⟩
   have HB13 := hJ hb
   have HR13hr12 := hJ hr12
   clear hb hr12
   have HZ10_0w4 := hJ (BX.new HZ10_0.out HB13.out)
   have fz14_0 := HZ10_0w4.out.frozen 0
   have fc14_0 := HZ10_0w4.out.cell 0 rfl
   have fz14_1 := HZ10_0w4.out.frozen 1
   have fc14_1 := HZ10_0w4.out.cell 1 rfl
   have fz14_2 := HZ10_0w4.out.frozen 2
   have fc14_2 := HZ10_0w4.out.cell 2 rfl
   have fz14_3 := HZ10_0w4.out.frozen 3
   have fc14_3 := HZ10_0w4.out.cell 3 rfl
   have fz14_4 := HZ10_0w4.out.frozen 4
   have fc14_4 := HZ10_0w4.out.cell 4 rfl
   have fz14_5 := HZ10_0w4.out.frozen 5
   have fc14_5 := HZ10_0w4.out.cell 5 rfl
   have fz14_6 := HZ10_0w4.out.frozen 6
   have fc14_6 := HZ10_0w4.out.cell 6 rfl
   have fz14_7 := HZ10_0w4.out.frozen 7
   have fc14_7 := HZ10_0w4.out.cell 7 rfl
   have fz14_8 := HZ10_0w4.out.frozen 8
   have fc14_8 := HZ10_0w4.out.cell 8 rfl
   have fz14_9 := HZ10_0w4.out.frozen 9
   have fc14_9 := HZ10_0w4.out.cell 9 rfl
   have fz14_10 := HZ10_0w4.out.frozen 10
   have fc14_10 := HZ10_0w4.out.cell 10 rfl
   have fz14_11 := HZ10_0w4.out.frozen 11
   have fc14_11 := HZ10_0w4.out.cell 11 rfl
   have fz14_12 := HZ10_0w4.out.frozen 12
   have fc14_12 := HZ10_0w4.out.cell 12 rfl
   have fz14_13 := HZ10_0w4.out.frozen 13
   have fc14_13 := HZ10_0w4.out.cell 13 rfl
   obtain ⟨x14, hx14⟩ := nmz (World.setCell (World.setCell w13 ⟨x1.heap.size, 2, none⟩ (.bool s12)) ⟨x1.heap.size, 3, none⟩ (.slice A12 n12 c12))
   have HE14 := hJ (show sto w13 x1.heap.size 2 [.bool s12, .slice A12 n12 c12] = x14 from hx14)
   have HQ14s := hJ (show BX 58 x14 x1.heap.size #[.bool zb10_0_0, .slice zA10_0_1 zn10_0_1 zc10_0_1, .bool s12, .slice A12 n12 c12, .bool zb10_0_4, .slice zA10_0_5 zn10_0_5 zc10_0_5, .bool zb10_0_6, .slice zA10_0_7 zn10_0_7 zc10_0_7, .bool zb10_0_8, .slice zA10_0_9 zn10_0_9 zc10_0_9, .bool zb10_0_10, .slice zA10_0_11 zn10_0_11 zc10_0_11, .bool zb10_0_12, .slice zA10_0_13 zn10_0_13 zc10_0_13] by rw [← HE14.out]; exact BX.put HZ10_0w4.out _ _)
   have HZ10_1w4 := hJ (PIo.new HZ10_1.out HB13.out)
   have HZ10_1w5 := hJ (show PI x14 zb10_0_0 zA10_0_1 zn10_0_1 zc10_0_1 (xb - xa) by rw [← HE14.out]; exact PIo.sto HZ10_1w4.out HZ10_0w4.out rfl _ _)
   have HR13hr12w5 := hJ (show PI x14 s12 A12 n12 c12 (yc - ya) by rw [← HE14.out]; exact PIo.sto HR13hr12.out HZ10_0w4.out rfl _ _)
   have HZ10_3w4 := hJ (PIo.new HZ10_3.out HB13.out)
   have HZ10_3w5 := hJ (show PI x14 zb10_0_4 zA10_0_5 zn10_0_5 zc10_0_5 z2_10 by rw [← HE14.out]; exact PIo.sto HZ10_3w4.out HZ10_0w4.out rfl _ _)
   have HZ10_4w4 := hJ (PIo.new HZ10_4.out HB13.out)
   have HZ10_4w5 := hJ (show PI x14 zb10_0_6 zA10_0_7 zn10_0_7 zc10_0_7 z3_10 by rw [← HE14.out]; exact PIo.sto HZ10_4w4.out HZ10_0w4.out rfl _ _)
   have HZ10_5w4 := hJ (PIo.new HZ10_5.out HB13.out)
   have HZ10_5w5 := hJ (show PI x14 zb10_0_8 zA10_0_9 zn10_0_9 zc10_0_9 z4_10 by rw [← HE14.out]; exact PIo.sto HZ10_5w4.out HZ10_0w4.out rfl _ _)
   have HZ10_6w4 := hJ (PIo.new HZ10_6.out HB13.out)
   have HZ10_6w5 := hJ (show PI x14 zb10_0_10 zA10_0_11 zn10_0_11 zc10_0_11 z5_10 by rw [← HE14.out]; exact PIo.sto HZ10_6w4.out HZ10_0w4.out rfl _ _)
   have HZ10_7w4 := hJ (PIo.new HZ10_7.out HB13.out)
   have HZ10_7w5 := hJ (show PI x14 zb10_0_12 zA10_0_13 zn10_0_13 zc10_0_13 z6_10 by rw [← HE14.out]; exact PIo.sto HZ10_7w4.out HZ10_0w4.out rfl _ _)
   have HC1_5 := hJ (show Below x1.heap.size x1 x14 by rw [← HE14.out]; exact below_sto (bt HBW10.out HB13.out) HG2x0.out _ _)
   go_wp2_with fail
   clear fz14_0 fc14_0 fz14_1 fc14_1 fz14_2 fc14_2 fz14_3 fc14_3 fz14_4 fc14_4 fz14_5 fc14_5 fz14_6 fc14_6 fz14_7 fc14_7 fz14_8 fc14_8 fz14_9 fc14_9 fz14_10 fc14_10 fz14_11 fc14_11 fz14_12 fc14_12 fz14_13 fc14_13 hx14
   go_roundw
   case rel => exact ⟨1 + 1, zb10_0_0, zA10_0_1, zn10_0_1, zc10_0_1, s12, A12, n12, c12, zb10_0_4, zA10_0_5, zn10_0_5, zc10_0_5, zb10_0_6, zA10_0_7, zn10_0_7, zc10_0_7, zb10_0_8, zA10_0_9, zn10_0_9, zc10_0_9, zb10_0_10, zA10_0_11, zn10_0_11, zc10_0_11, zb10_0_12, zA10_0_13, zn10_0_13, zc10_0_13, (xb - xa), (yc - ya), z2_10, z3_10, z4_10, z5_10, z6_10, by omega, by go_num, HQ14s.out, HZ10_1w5.out, HR13hr12w5.out, HZ10_3w5.out, HZ10_4w5.out, HZ10_5w5.out, HZ10_6w5.out, HZ10_7w5.out, hJ (⟨fun _ => rfl, fun _ => rfl, fun h => absurd h (by decide), fun h => absurd h (by decide), fun h => absurd h (by decide), fun h => absurd h (by decide), fun h => absurd h (by decide)⟩), HC1_5.out⟩
   case measure => simp [intOf] <;> omega
  ·(try rw [show ((2 : Nat) : Int) = 2 from rfl])
   obtain rfl : xb - xa = z0_10 := (HI10.out.1 (by decide)).symm
   obtain rfl : yc - ya = z1_10 := (HI10.out.2.1 (by decide)).symm
   have hix : ∀ wx, (Instr.index 60 (.agg #[.func (.func 35) #[] #[.pointer (some ⟨w.heap.size, 0, none⟩), .pointer (some ⟨w.heap.size + 3, 0, none⟩), .pointer (some ⟨w.heap.size + 2, 0, none⟩)], .func (.func 36) #[] #[.pointer (some ⟨w.heap.size, 0, none⟩), .pointer (some ⟨w.heap.size + 4, 0, none⟩), .pointer (some ⟨w.heap.size + 2, 0, none⟩)], .func (.func 37) #[] #[.pointer (some ⟨w.heap.size + 1, 0, none⟩), .pointer (some ⟨x1.heap.size, 0, none⟩)], .func (.func 38) #[] #[.pointer (some ⟨w.heap.size, 0, none⟩), .pointer (some ⟨w.heap.size + 3, 0, none⟩), .pointer (some ⟨w.heap.size + 2, 0, none⟩)], .func (.func 39) #[] #[.pointer (some ⟨w.heap.size, 0, none⟩), .pointer (some ⟨w.heap.size + 4, 0, none⟩), .pointer (some ⟨w.heap.size + 2, 0, none⟩)], .func (.func 40) #[] #[.pointer (some ⟨w.heap.size + 1, 0, none⟩), .pointer (some ⟨x1.heap.size, 0, none⟩)], .func (.func 41) #[] #[.pointer (some ⟨w.heap.size, 0, none⟩), .pointer (some ⟨x1.heap.size, 0, none⟩)]]) (.int .i64 2)).run Try.prog wx = .ok (.func (.func 37) #[] #[.pointer (some ⟨w.heap.size + 1, 0, none⟩), .pointer (some ⟨x1.heap.size, 0, none⟩)]) wx := fun wx => fx7_2 wx
   have HQ1x1w3 := hJ (BX.new HQ1x1.out HBW10.out)
   go_wp2_with fail
   clear hix
   refine (da3_any (xb - xa) (yc - ya) zb10_0_0 zA10_0_1 zn10_0_1 zc10_0_1 zb10_0_2 zA10_0_3 zn10_0_3 zc10_0_3 zb10_0_4 zA10_0_5 zn10_0_5 zc10_0_5 zb10_0_6 zA10_0_7 zn10_0_7 zc10_0_7 zb10_0_8 zA10_0_9 zn10_0_9 zc10_0_9 zb10_0_10 zA10_0_11 zn10_0_11 zc10_0_11 zb10_0_12 zA10_0_13 zn10_0_13 zc10_0_13 (w.heap.size + 1) x1.heap.size wl10 HQ1x1w3.out HZ10_0.out HZ10_1.out HZ10_2.out (nk_lim HD.out.1.1) (nk_lim HD.out.1.2) (nk_lim HM.out.1)).mono ?_
   rintro e w15 ⟨s13, A13, n13, c13, rfl, hr13, hb⟩
   have HB15 := hJ hb
   have HR15hr13 := hJ hr13
   clear hb hr13
   have HZ10_0w4 := hJ (BX.new HZ10_0.out HB15.out)
   have fz16_0 := HZ10_0w4.out.frozen 0
   have fc16_0 := HZ10_0w4.out.cell 0 rfl
   have fz16_1 := HZ10_0w4.out.frozen 1
   have fc16_1 := HZ10_0w4.out.cell 1 rfl
   have fz16_2 := HZ10_0w4.out.frozen 2
   have fc16_2 := HZ10_0w4.out.cell 2 rfl
   have fz16_3 := HZ10_0w4.out.frozen 3
   have fc16_3 := HZ10_0w4.out.cell 3 rfl
   have fz16_4 := HZ10_0w4.out.frozen 4
   have fc16_4 := HZ10_0w4.out.cell 4 rfl
   have fz16_5 := HZ10_0w4.out.frozen 5
   have fc16_5 := HZ10_0w4.out.cell 5 rfl
   have fz16_6 := HZ10_0w4.out.frozen 6
   have fc16_6 := HZ10_0w4.out.cell 6 rfl
   have fz16_7 := HZ10_0w4.out.frozen 7
   have fc16_7 := HZ10_0w4.out.cell 7 rfl
   have fz16_8 := HZ10_0w4.out.frozen 8
   have fc16_8 := HZ10_0w4.out.cell 8 rfl
   have fz16_9 := HZ10_0w4.out.frozen 9
   have fc16_9 := HZ10_0w4.out.cell 9 rfl
   have fz16_10 := HZ10_0w4.out.frozen 10
   have fc16_10 := HZ10_0w4.out.cell 10 rfl
   have fz16_11 := HZ10_0w4.out.frozen 11
   have fc16_11 := HZ10_0w4.out.cell 11 rfl
   have fz16_12 := HZ10_0w4.out.frozen 12
   have fc16_12 := HZ10_0w4.out.cell 12 rfl
   have fz16_13 := HZ10_0w4.out.frozen 13
   have fc16_13 := HZ10_0w4.out.cell 13 rfl
   obtain ⟨x16, hx16⟩ := nmz (World.setCell (World.setCell w15 ⟨x1.heap.size, 4, none⟩ (.bool s13)) ⟨x1.heap.size, 5, none⟩ (.slice A13 n13 c13))
   have HE16 := hJ (show sto w15 x1.heap.size 4 [.bool s13, .slice A13 n13 c13] = x16 from hx16)
   have HQ16s := hJ (show BX 58 x16 x1.heap.size #[.bool zb10_0_0, .slice zA10_0_1 zn10_0_1 zc10_0_1, .bool zb10_0_2, .slice zA10_0_3 zn10_0_3 zc10_0_3, .bool s13, .slice A13 n13 c13, .bool zb10_0_6, .slice zA10_0_7 zn10_0_7 zc10_0_7, .bool zb10_0_8, .slice zA10_0_9 zn10_0_9 zc10_0_9, .bool zb10_0_10, .slice zA10_0_11 zn10_0_11 zc10_0_11, .bool zb10_0_12, .slice zA10_0_13 zn10_0_13 zc10_0_13] by rw [← HE16.out]; exact BX.put HZ10_0w4.out _ _)
   have HZ10_1w4 := hJ (PIo.new HZ10_1.out HB15.out)
   have HZ10_1w5 := hJ (show PI x16 zb10_0_0 zA10_0_1 zn10_0_1 zc10_0_1 (xb - xa) by rw [← HE16.out]; exact PIo.sto HZ10_1w4.out HZ10_0w4.out rfl _ _)
   have HZ10_2w4 := hJ (PIo.new HZ10_2.out HB15.out)
   have HZ10_2w5 := hJ (show PI x16 zb10_0_2 zA10_0_3 zn10_0_3 zc10_0_3 (yc - ya) by rw [← HE16.out]; exact PIo.sto HZ10_2w4.out HZ10_0w4.out rfl _ _)
   have HR15hr13w5 := hJ (show PI x16 s13 A13 n13 c13 ((xb - xa) * (yc - ya)) by rw [← HE16.out]; exact PIo.sto HR15hr13.out HZ10_0w4.out rfl _ _)
   have HZ10_4w4 := hJ (PIo.new HZ10_4.out HB15.out)
   have HZ10_4w5 := hJ (show PI x16 zb10_0_6 zA10_0_7 zn10_0_7 zc10_0_7 z3_10 by rw [← HE16.out]; exact PIo.sto HZ10_4w4.out HZ10_0w4.out rfl _ _)
   have HZ10_5w4 := hJ (PIo.new HZ10_5.out HB15.out)
   have HZ10_5w5 := hJ (show PI x16 zb10_0_8 zA10_0_9 zn10_0_9 zc10_0_9 z4_10 by rw [← HE16.out]; exact PIo.sto HZ10_5w4.out HZ10_0w4.out rfl _ _)
   have HZ10_6w4 := hJ (PIo.new HZ10_6.out HB15.out)
   have HZ10_6w5 := hJ (show PI x16 zb10_0_10 zA10_0_11 zn10_0_11 zc10_0_11 z5_10 by rw [← HE16.out]; exact PIo.sto HZ10_6w4.out HZ10_0w4.out rfl _ _)
   have HZ10_7w4 := hJ (PIo.new HZ10_7.out HB15.out)
   have HZ10_7w5 := hJ (show PI x16 zb10_0_12 zA10_0_13 zn10_0_13 zc10_0_13 z6_10 by rw [← HE16.out]; exact PIo.sto HZ10_7w4.out HZ10_0w4.out rfl _ _)
   have HC1_5 := hJ (show Below x1.heap.size x1 x16 by rw [← HE16.out]; exact below_sto (bt HBW10.out HB15.out) HG2x0.out _ _)
   go_wp2_with fail
   clear fz16_0 fc16_0 fz16_1 fc16_1 fz16_2 fc16_2 fz16_3 fc16_3 fz16_4 fc16_4 fz16_5 fc16_5 fz16_6 fc16_6 fz16_7 fc16_7 fz16_8 fc16_8 fz16_9 fc16_9 fz16_10 fc16_10 fz16_11 fc16_11 fz16_12 fc16_12 fz16_13 fc16_13 hx16
   go_roundw
   case rel => exact ⟨2 + 1, zb10_0_0, zA10_0_1, zn10_0_1, zc10_0_1, zb10_0_2, zA10_0_3, zn10_0_3, zc10_0_3, s13, A13, n13, c13, zb10_0_6, zA10_0_7, zn10_0_7, zc10_0_7, zb10_0_8, zA10_0_9, zn10_0_9, zc10_0_9, zb10_0_10, zA10_0_11, zn10_0_11, zc10_0_11, zb10_0_12, zA10_0_13, zn10_0_13, zc10_0_13, (xb - xa), (yc - ya), ((xb - xa) * (yc - ya)), z3_10, z4_10, z5_10, z6_10, by omega, by go_num, HQ16s.out, HZ10_1w5.out, HZ10_2w5.out, HR15hr13w5.out, HZ10_4w5.out, HZ10_5w5.out, HZ10_6w5.out, HZ10_7w5.out, hJ (⟨fun _ => rfl, fun _ => rfl, fun _ => rfl, fun h => absurd h (by decide), fun h => absurd h (by decide), fun h => absurd h (by decide), fun h => absurd h (by decide)⟩), HC1_5.out⟩
   case measure => simp [intOf] <;> omega
  ·(try rw [show ((3 : Nat) : Int) = 3 from rfl])
   obtain rfl : xb - xa = z0_10 := (HI10.out.1 (by decide)).symm
   obtain rfl : yc - ya = z1_10 := (HI10.out.2.1 (by decide)).symm
   obtain rfl : (xb - xa) * (yc - ya) = z2_10 := (HI10.out.2.2.1 (by decide)).symm
   have hix : ∀ wx, (Instr.index 60 (.agg #[.func (.func 35) #[] #[.pointer (some ⟨w.heap.size, 0, none⟩), .pointer (some ⟨w.heap.size + 3, 0, none⟩), .pointer (some ⟨w.heap.size + 2, 0, none⟩)], .func (.func 36) #[] #[.pointer (some ⟨w.heap.size, 0, none⟩), .pointer (some ⟨w.heap.size + 4, 0, none⟩), .pointer (some ⟨w.heap.size + 2, 0, none⟩)], .func (.func 37) #[] #[.pointer (some ⟨w.heap.size + 1, 0, none⟩), .pointer (some ⟨x1.heap.size, 0, none⟩)], .func (.func 38) #[] #[.pointer (some ⟨w.heap.size, 0, none⟩), .pointer (some ⟨w.heap.size + 3, 0, none⟩), .pointer (some ⟨w.heap.size + 2, 0, none⟩)], .func (.func 39) #[] #[.pointer (some ⟨w.heap.size, 0, none⟩), .pointer (some ⟨w.heap.size + 4, 0, none⟩), .pointer (some ⟨w.heap.size + 2, 0, none⟩)], .func (.func 40) #[] #[.pointer (some ⟨w.heap.size + 1, 0, none⟩), .pointer (some ⟨x1.heap.size, 0, none⟩)], .func (.func 41) #[] #[.pointer (some ⟨w.heap.size, 0, none⟩), .pointer (some ⟨x1.heap.size, 0, none⟩)]]) (.int .i64 3)).run Try.prog wx = .ok (.func (.func 38) #[] #[.pointer (some ⟨w.heap.size, 0, none⟩), .pointer (some ⟨w.heap.size + 3, 0, none⟩), .pointer (some ⟨w.heap.size + 2, 0, none⟩)]) wx := fun wx => fx7_3 wx
   have HQ1x0w3 := hJ (BX.new HQ1x0.out HBW10.out)
   have HQ1x3w3 := hJ (BX.new HQ1x3.out HBW10.out)
   have HQ1x2w3 := hJ (BX.new HQ1x2.out HBW10.out)
   have HP3w3 := hJ (PIo.new HP3.out HBX10_0.out)
   have HP1w3 := hJ (PIo.new HP1.out HBX10_0.out)
   go_wp2_with fail
   clear hix
   refine (da4_any yb ya s2 A2 n2 c2 s3 A3 n3 c3 s0 A0 n0 c0 s1 A1 n1 c1 w.heap.size (w.heap.size + 3) (w.heap.size + 2) wl10 HQ1x0w3.out HQ1x3w3.out HQ1x2w3.out HP3w3.out HP1w3.out (nk_lim HN.out.2.2.2.1) (nk_lim HN.out.2.1) (nk_lim HD.out.2.1)).mono ?_
   rintro e w17 ⟨s14, A14, n14, c14, rfl, hr14, hb⟩
   have HB17 := hJ hb
   have HR17hr14 := hJ hr14
   clear hb hr14
   have HZ10_0w4 := hJ (BX.new HZ10_0.out HB17.out)
   have fz18_0 := HZ10_0w4.out.frozen 0
   have fc18_0 := HZ10_0w4.out.cell 0 rfl
   have fz18_1 := HZ10_0w4.out.frozen 1
   have fc18_1 := HZ10_0w4.out.cell 1 rfl
   have fz18_2 := HZ10_0w4.out.frozen 2
   have fc18_2 := HZ10_0w4.out.cell 2 rfl
   have fz18_3 := HZ10_0w4.out.frozen 3
   have fc18_3 := HZ10_0w4.out.cell 3 rfl
   have fz18_4 := HZ10_0w4.out.frozen 4
   have fc18_4 := HZ10_0w4.out.cell 4 rfl
   have fz18_5 := HZ10_0w4.out.frozen 5
   have fc18_5 := HZ10_0w4.out.cell 5 rfl
   have fz18_6 := HZ10_0w4.out.frozen 6
   have fc18_6 := HZ10_0w4.out.cell 6 rfl
   have fz18_7 := HZ10_0w4.out.frozen 7
   have fc18_7 := HZ10_0w4.out.cell 7 rfl
   have fz18_8 := HZ10_0w4.out.frozen 8
   have fc18_8 := HZ10_0w4.out.cell 8 rfl
   have fz18_9 := HZ10_0w4.out.frozen 9
   have fc18_9 := HZ10_0w4.out.cell 9 rfl
   have fz18_10 := HZ10_0w4.out.frozen 10
   have fc18_10 := HZ10_0w4.out.cell 10 rfl
   have fz18_11 := HZ10_0w4.out.frozen 11
   have fc18_11 := HZ10_0w4.out.cell 11 rfl
   have fz18_12 := HZ10_0w4.out.frozen 12
   have fc18_12 := HZ10_0w4.out.cell 12 rfl
   have fz18_13 := HZ10_0w4.out.frozen 13
   have fc18_13 := HZ10_0w4.out.cell 13 rfl
   obtain ⟨x18, hx18⟩ := nmz (World.setCell (World.setCell w17 ⟨x1.heap.size, 6, none⟩ (.bool s14)) ⟨x1.heap.size, 7, none⟩ (.slice A14 n14 c14))
   have HE18 := hJ (show sto w17 x1.heap.size 6 [.bool s14, .slice A14 n14 c14] = x18 from hx18)
   have HQ18s := hJ (show BX 58 x18 x1.heap.size #[.bool zb10_0_0, .slice zA10_0_1 zn10_0_1 zc10_0_1, .bool zb10_0_2, .slice zA10_0_3 zn10_0_3 zc10_0_3, .bool zb10_0_4, .slice zA10_0_5 zn10_0_5 zc10_0_5, .bool s14, .slice A14 n14 c14, .bool zb10_0_8, .slice zA10_0_9 zn10_0_9 zc10_0_9, .bool zb10_0_10, .slice zA10_0_11 zn10_0_11 zc10_0_11, .bool zb10_0_12, .slice zA10_0_13 zn10_0_13 zc10_0_13] by rw [← HE18.out]; exact BX.put HZ10_0w4.out _ _)
   have HZ10_1w4 := hJ (PIo.new HZ10_1.out HB17.out)
   have HZ10_1w5 := hJ (show PI x18 zb10_0_0 zA10_0_1 zn10_0_1 zc10_0_1 (xb - xa) by rw [← HE18.out]; exact PIo.sto HZ10_1w4.out HZ10_0w4.out rfl _ _)
   have HZ10_2w4 := hJ (PIo.new HZ10_2.out HB17.out)
   have HZ10_2w5 := hJ (show PI x18 zb10_0_2 zA10_0_3 zn10_0_3 zc10_0_3 (yc - ya) by rw [← HE18.out]; exact PIo.sto HZ10_2w4.out HZ10_0w4.out rfl _ _)
   have HZ10_3w4 := hJ (PIo.new HZ10_3.out HB17.out)
   have HZ10_3w5 := hJ (show PI x18 zb10_0_4 zA10_0_5 zn10_0_5 zc10_0_5 ((xb - xa) * (yc - ya)) by rw [← HE18.out]; exact PIo.sto HZ10_3w4.out HZ10_0w4.out rfl _ _)
   have HR17hr14w5 := hJ (show PI x18 s14 A14 n14 c14 (yb - ya) by rw [← HE18.out]; exact PIo.sto HR17hr14.out HZ10_0w4.out rfl _ _)
   have HZ10_5w4 := hJ (PIo.new HZ10_5.out HB17.out)
   have HZ10_5w5 := hJ (show PI x18 zb10_0_8 zA10_0_9 zn10_0_9 zc10_0_9 z4_10 by rw [← HE18.out]; exact PIo.sto HZ10_5w4.out HZ10_0w4.out rfl _ _)
   have HZ10_6w4 := hJ (PIo.new HZ10_6.out HB17.out)
   have HZ10_6w5 := hJ (show PI x18 zb10_0_10 zA10_0_11 zn10_0_11 zc10_0_11 z5_10 by rw [← HE18.out]; exact PIo.sto HZ10_6w4.out HZ10_0w4.out rfl _ _)
   have HZ10_7w4 := hJ (PIo.new HZ10_7.out HB17.out)
   have HZ10_7w5 := hJ (show PI x18 zb10_0_12 zA10_0_13 zn10_0_13 zc10_0_13 z6_10 by rw [← HE18.out]; exact PIo.sto HZ10_7w4.out HZ10_0w4.out rfl _ _)
   have HC1_5 := hJ (show Below x1.heap.size x1 x18 by rw [← HE18.out]; exact below_sto (bt HBW10.out HB17.out) HG2x0.out _ _)
   go_wp2_with fail
   clear fz18_0 fc18_0 fz18_1 fc18_1 fz18_2 fc18_2 fz18_3 fc18_3 fz18_4 fc18_4 fz18_5 fc18_5 fz18_6 fc18_6 fz18_7 fc18_7 fz18_8 fc18_8 fz18_9 fc18_9 fz18_10 fc18_10 fz18_11 fc18_11 fz18_12 fc18_12 fz18_13 fc18_13 hx18
   go_roundw
   case rel => exact ⟨3 + 1, zb10_0_0, zA10_0_1, zn10_0_1, zc10_0_1, zb10_0_2, zA10_0_3, zn10_0_3, zc10_0_3, zb10_0_4, zA10_0_5, zn10_0_5, zc10_0_5, s14, A14, n14, c14, zb10_0_8, zA10_0_9, zn10_0_9, zc10_0_9, zb10_0_10, zA10_0_11, zn10_0_11, zc10_0_11, zb10_0_12, zA10_0_13, zn10_0_13, zc10_0_13, (xb - xa), (yc - ya), ((xb - xa) * (yc - ya)), (yb - ya), z4_10, z5_10, z6_10, by omega, by go_num, HQ18s.out, HZ10_1w5.out, HZ10_2w5.out, HZ10_3w5.out, HR17hr14w5.out, HZ10_5w5.out, HZ10_6w5.out, HZ10_7w5.out, hJ (⟨fun _ => rfl, fun _ => rfl, fun _ => rfl, fun _ => rfl, fun h => absurd h (by decide), fun h => absurd h (by decide), fun h => absurd h (by decide)⟩), HC1_5.out⟩
   case measure => simp [intOf] <;> omega
  ·(try rw [show ((4 : Nat) : Int) = 4 from rfl])
   obtain rfl : xb - xa = z0_10 := (HI10.out.1 (by decide)).symm
   obtain rfl : yc - ya = z1_10 := (HI10.out.2.1 (by decide)).symm
   obtain rfl : (xb - xa) * (yc - ya) = z2_10 := (HI10.out.2.2.1 (by decide)).symm
   obtain rfl : yb - ya = z3_10 := (HI10.out.2.2.2.1 (by decide)).symm
   have hix : ∀ wx, (Instr.index 60 (.agg #[.func (.func 35) #[] #[.pointer (some ⟨w.heap.size, 0, none⟩), .pointer (some ⟨w.heap.size + 3, 0, none⟩), .pointer (some ⟨w.heap.size + 2, 0, none⟩)], .func (.func 36) #[] #[.pointer (some ⟨w.heap.size, 0, none⟩), .pointer (some ⟨w.heap.size + 4, 0, none⟩), .pointer (some ⟨w.heap.size + 2, 0, none⟩)], .func (.func 37) #[] #[.pointer (some ⟨w.heap.size + 1, 0, none⟩), .pointer (some ⟨x1.heap.size, 0, none⟩)], .func (.func 38) #[] #[.pointer (some ⟨w.heap.size, 0, none⟩), .pointer (some ⟨w.heap.size + 3, 0, none⟩), .pointer (some ⟨w.heap.size + 2, 0, none⟩)], .func (.func 39) #[] #[.pointer (some ⟨w.heap.size, 0, none⟩), .pointer (some ⟨w.heap.size + 4, 0, none⟩), .pointer (some ⟨w.heap.size + 2, 0, none⟩)], .func (.func 40) #[] #[.pointer (some ⟨w.heap.size + 1, 0, none⟩), .pointer (some ⟨x1.heap.size, 0, none⟩)], .func (.func 41) #[] #[.pointer (some ⟨w.heap.size, 0, none⟩), .pointer (some ⟨x1.heap.size, 0, none⟩)]]) (.int .i64 4)).run Try.prog wx = .ok (.func (.func 39) #[] #[.pointer (some ⟨w.heap.size, 0, none⟩), .pointer (some ⟨w.heap.size + 4, 0, none⟩), .pointer (some ⟨w.heap.size + 2, 0, none⟩)]) wx := fun wx => fx7_4 wx
   have HQ1x0w3 := hJ (BX.new HQ1x0.out HBW10.out)
   have HQ1x4w3 := hJ (BX.new HQ1x4.out HBW10.out)
   have HQ1x2w3 := hJ (BX.new HQ1x2.out HBW10.out)
   have HP4w3 := hJ (PIo.new HP4.out HBX10_0.out)
   have HP0w3 := hJ (PIo.new HP0.out HBX10_0.out)
   go_wp2_with fail
   clear hix
   refine (da5_any xc xa s4 A4 n4 c4 s5 A5 n5 c5 s0 A0 n0 c0 s1 A1 n1 c1 w.heap.size (w.heap.size + 4) (w.heap.size + 2) wl10 HQ1x0w3.out HQ1x4w3.out HQ1x2w3.out HP4w3.out HP0w3.out (nk_lim HN.out.2.2.2.2.1) (nk_lim HN.out.1) (nk_lim HD.out.2.2)).mono ?_
   rintro e w19 ⟨s15, A15, n15, c15, rfl, hr15, hb⟩
   have HB19 := hJ hb
   have HR19hr15 := hJ hr15
   clear hb hr15
   have HZ10_0w4 := hJ (BX.new HZ10_0.out HB19.out)
   have fz20_0 := HZ10_0w4.out.frozen 0
   have fc20_0 := HZ10_0w4.out.cell 0 rfl
   have fz20_1 := HZ10_0w4.out.frozen 1
   have fc20_1 := HZ10_0w4.out.cell 1 rfl
   have fz20_2 := HZ10_0w4.out.frozen 2
   have fc20_2 := HZ10_0w4.out.cell 2 rfl
   have fz20_3 := HZ10_0w4.out.frozen 3
   have fc20_3 := HZ10_0w4.out.cell 3 rfl
   have fz20_4 := HZ10_0w4.out.frozen 4
   have fc20_4 := HZ10_0w4.out.cell 4 rfl
   have fz20_5 := HZ10_0w4.out.frozen 5
   have fc20_5 := HZ10_0w4.out.cell 5 rfl
   have fz20_6 := HZ10_0w4.out.frozen 6
   have fc20_6 := HZ10_0w4.out.cell 6 rfl
   have fz20_7 := HZ10_0w4.out.frozen 7
   have fc20_7 := HZ10_0w4.out.cell 7 rfl
   have fz20_8 := HZ10_0w4.out.frozen 8
   have fc20_8 := HZ10_0w4.out.cell 8 rfl
   have fz20_9 := HZ10_0w4.out.frozen 9
   have fc20_9 := HZ10_0w4.out.cell 9 rfl
   have fz20_10 := HZ10_0w4.out.frozen 10
   have fc20_10 := HZ10_0w4.out.cell 10 rfl
   have fz20_11 := HZ10_0w4.out.frozen 11
   have fc20_11 := HZ10_0w4.out.cell 11 rfl
   have fz20_12 := HZ10_0w4.out.frozen 12
   have fc20_12 := HZ10_0w4.out.cell 12 rfl
   have fz20_13 := HZ10_0w4.out.frozen 13
   have fc20_13 := HZ10_0w4.out.cell 13 rfl
   obtain ⟨x20, hx20⟩ := nmz (World.setCell (World.setCell w19 ⟨x1.heap.size, 8, none⟩ (.bool s15)) ⟨x1.heap.size, 9, none⟩ (.slice A15 n15 c15))
   have HE20 := hJ (show sto w19 x1.heap.size 8 [.bool s15, .slice A15 n15 c15] = x20 from hx20)
   have HQ20s := hJ (show BX 58 x20 x1.heap.size #[.bool zb10_0_0, .slice zA10_0_1 zn10_0_1 zc10_0_1, .bool zb10_0_2, .slice zA10_0_3 zn10_0_3 zc10_0_3, .bool zb10_0_4, .slice zA10_0_5 zn10_0_5 zc10_0_5, .bool zb10_0_6, .slice zA10_0_7 zn10_0_7 zc10_0_7, .bool s15, .slice A15 n15 c15, .bool zb10_0_10, .slice zA10_0_11 zn10_0_11 zc10_0_11, .bool zb10_0_12, .slice zA10_0_13 zn10_0_13 zc10_0_13] by rw [← HE20.out]; exact BX.put HZ10_0w4.out _ _)
   have HZ10_1w4 := hJ (PIo.new HZ10_1.out HB19.out)
   have HZ10_1w5 := hJ (show PI x20 zb10_0_0 zA10_0_1 zn10_0_1 zc10_0_1 (xb - xa) by rw [← HE20.out]; exact PIo.sto HZ10_1w4.out HZ10_0w4.out rfl _ _)
   have HZ10_2w4 := hJ (PIo.new HZ10_2.out HB19.out)
   have HZ10_2w5 := hJ (show PI x20 zb10_0_2 zA10_0_3 zn10_0_3 zc10_0_3 (yc - ya) by rw [← HE20.out]; exact PIo.sto HZ10_2w4.out HZ10_0w4.out rfl _ _)
   have HZ10_3w4 := hJ (PIo.new HZ10_3.out HB19.out)
   have HZ10_3w5 := hJ (show PI x20 zb10_0_4 zA10_0_5 zn10_0_5 zc10_0_5 ((xb - xa) * (yc - ya)) by rw [← HE20.out]; exact PIo.sto HZ10_3w4.out HZ10_0w4.out rfl _ _)
   have HZ10_4w4 := hJ (PIo.new HZ10_4.out HB19.out)
   have HZ10_4w5 := hJ (show PI x20 zb10_0_6 zA10_0_7 zn10_0_7 zc10_0_7 (yb - ya) by rw [← HE20.out]; exact PIo.sto HZ10_4w4.out HZ10_0w4.out rfl _ _)
   have HR19hr15w5 := hJ (show PI x20 s15 A15 n15 c15 (xc - xa) by rw [← HE20.out]; exact PIo.sto HR19hr15.out HZ10_0w4.out rfl _ _)
   have HZ10_6w4 := hJ (PIo.new HZ10_6.out HB19.out)
   have HZ10_6w5 := hJ (show PI x20 zb10_0_10 zA10_0_11 zn10_0_11 zc10_0_11 z5_10 by rw [← HE20.out]; exact PIo.sto HZ10_6w4.out HZ10_0w4.out rfl _ _)
   have HZ10_7w4 := hJ (PIo.new HZ10_7.out HB19.out)
   have HZ10_7w5 := hJ (show PI x20 zb10_0_12 zA10_0_13 zn10_0_13 zc10_0_13 z6_10 by rw [← HE20.out]; exact PIo.sto HZ10_7w4.out HZ10_0w4.out rfl _ _)
   have HC1_5 := hJ (show Below x1.heap.size x1 x20 by rw [← HE20.out]; exact below_sto (bt HBW10.out HB19.out) HG2x0.out _ _)
   go_wp2_with fail
   clear fz20_0 fc20_0 fz20_1 fc20_1 fz20_2 fc20_2 fz20_3 fc20_3 fz20_4 fc20_4 fz20_5 fc20_5 fz20_6 fc20_6 fz20_7 fc20_7 fz20_8 fc20_8 fz20_9 fc20_9 fz20_10 fc20_10 fz20_11 fc20_11 fz20_12 fc20_12 fz20_13 fc20_13 hx20
   go_roundw
   case rel => exact ⟨4 + 1, zb10_0_0, zA10_0_1, zn10_0_1, zc10_0_1, zb10_0_2, zA10_0_3, zn10_0_3, zc10_0_3, zb10_0_4, zA10_0_5, zn10_0_5, zc10_0_5, zb10_0_6, zA10_0_7, zn10_0_7, zc10_0_7, s15, A15, n15, c15, zb10_0_10, zA10_0_11, zn10_0_11, zc10_0_11, zb10_0_12, zA10_0_13, zn10_0_13, zc10_0_13, (xb - xa), (yc - ya), ((xb - xa) * (yc - ya)), (yb - ya), (xc - xa), z5_10, z6_10, by omega, by go_num, HQ20s.out, HZ10_1w5.out, HZ10_2w5.out, HZ10_3w5.out, HZ10_4w5.out, HR19hr15w5.out, HZ10_6w5.out, HZ10_7w5.out, hJ (⟨fun _ => rfl, fun _ => rfl, fun _ => rfl, fun _ => rfl, fun _ => rfl, fun h => absurd h (by decide), fun h => absurd h (by decide)⟩), HC1_5.out⟩
   case measure => simp [intOf] <;> omega
  ·(try rw [show ((5 : Nat) : Int) = 5 from rfl])
   obtain rfl : xb - xa = z0_10 := (HI10.out.1 (by decide)).symm
   obtain rfl : yc - ya = z1_10 := (HI10.out.2.1 (by decide)).symm
   obtain rfl : (xb - xa) * (yc - ya) = z2_10 := (HI10.out.2.2.1 (by decide)).symm
   obtain rfl : yb - ya = z3_10 := (HI10.out.2.2.2.1 (by decide)).symm
   obtain rfl : xc - xa = z4_10 := (HI10.out.2.2.2.2.1 (by decide)).symm
   have hix : ∀ wx, (Instr.index 60 (.agg #[.func (.func 35) #[] #[.pointer (some ⟨w.heap.size, 0, none⟩), .pointer (some ⟨w.heap.size + 3, 0, none⟩), .pointer (some ⟨w.heap.size + 2, 0, none⟩)], .func (.func 36) #[] #[.pointer (some ⟨w.heap.size, 0, none⟩), .pointer (some ⟨w.heap.size + 4, 0, none⟩), .pointer (some ⟨w.heap.size + 2, 0, none⟩)], .func (.func 37) #[] #[.pointer (some ⟨w.heap.size + 1, 0, none⟩), .pointer (some ⟨x1.heap.size, 0, none⟩)], .func (.func 38) #[] #[.pointer (some ⟨w.heap.size, 0, none⟩), .pointer (some ⟨w.heap.size + 3, 0, none⟩), .pointer (some ⟨w.heap.size + 2, 0, none⟩)], .func (.func 39) #[] #[.pointer (some ⟨w.heap.size, 0, none⟩), .pointer (some ⟨w.heap.size + 4, 0, none⟩), .pointer (some ⟨w.heap.size + 2, 0, none⟩)], .func (.func 40) #[] #[.pointer (some ⟨w.heap.size + 1, 0, none⟩), .pointer (some ⟨x1.heap.size, 0, none⟩)], .func (.func 41) #[] #[.pointer (some ⟨w.heap.size, 0, none⟩), .pointer (some ⟨x1.heap.size, 0, none⟩)]]) (.int .i64 5)).run Try.prog wx = .ok (.func (.func 40) #[] #[.pointer (some ⟨w.heap.size + 1, 0, none⟩), .pointer (some ⟨x1.heap.size, 0, none⟩)]) wx := fun wx => fx7_5 wx
   have HQ1x1w3 := hJ (BX.new HQ1x1.out HBW10.out)
   go_wp2_with fail
   clear hix
   refine (da6_any (yb - ya) (xc - xa) zb10_0_0 zA10_0_1 zn10_0_1 zc10_0_1 zb10_0_2 zA10_0_3 zn10_0_3 zc10_0_3 zb10_0_4 zA10_0_5 zn10_0_5 zc10_0_5 zb10_0_6 zA10_0_7 zn10_0_7 zc10_0_7 zb10_0_8 zA10_0_9 zn10_0_9 zc10_0_9 zb10_0_10 zA10_0_11 zn10_0_11 zc10_0_11 zb10_0_12 zA10_0_13 zn10_0_13 zc10_0_13 (w.heap.size + 1) x1.heap.size wl10 HQ1x1w3.out HZ10_0.out HZ10_4.out HZ10_5.out (nk_lim HD.out.2.1) (nk_lim HD.out.2.2) (nk_lim HM.out.2)).mono ?_
   rintro e w21 ⟨s16, A16, n16, c16, rfl, hr16, hb⟩
   have HB21 := hJ hb
   have HR21hr16 := hJ hr16
   clear hb hr16
   have HZ10_0w4 := hJ (BX.new HZ10_0.out HB21.out)
   have fz22_0 := HZ10_0w4.out.frozen 0
   have fc22_0 := HZ10_0w4.out.cell 0 rfl
   have fz22_1 := HZ10_0w4.out.frozen 1
   have fc22_1 := HZ10_0w4.out.cell 1 rfl
   have fz22_2 := HZ10_0w4.out.frozen 2
   have fc22_2 := HZ10_0w4.out.cell 2 rfl
   have fz22_3 := HZ10_0w4.out.frozen 3
   have fc22_3 := HZ10_0w4.out.cell 3 rfl
   have fz22_4 := HZ10_0w4.out.frozen 4
   have fc22_4 := HZ10_0w4.out.cell 4 rfl
   have fz22_5 := HZ10_0w4.out.frozen 5
   have fc22_5 := HZ10_0w4.out.cell 5 rfl
   have fz22_6 := HZ10_0w4.out.frozen 6
   have fc22_6 := HZ10_0w4.out.cell 6 rfl
   have fz22_7 := HZ10_0w4.out.frozen 7
   have fc22_7 := HZ10_0w4.out.cell 7 rfl
   have fz22_8 := HZ10_0w4.out.frozen 8
   have fc22_8 := HZ10_0w4.out.cell 8 rfl
   have fz22_9 := HZ10_0w4.out.frozen 9
   have fc22_9 := HZ10_0w4.out.cell 9 rfl
   have fz22_10 := HZ10_0w4.out.frozen 10
   have fc22_10 := HZ10_0w4.out.cell 10 rfl
   have fz22_11 := HZ10_0w4.out.frozen 11
   have fc22_11 := HZ10_0w4.out.cell 11 rfl
   have fz22_12 := HZ10_0w4.out.frozen 12
   have fc22_12 := HZ10_0w4.out.cell 12 rfl
   have fz22_13 := HZ10_0w4.out.frozen 13
   have fc22_13 := HZ10_0w4.out.cell 13 rfl
   obtain ⟨x22, hx22⟩ := nmz (World.setCell (World.setCell w21 ⟨x1.heap.size, 10, none⟩ (.bool s16)) ⟨x1.heap.size, 11, none⟩ (.slice A16 n16 c16))
   have HE22 := hJ (show sto w21 x1.heap.size 10 [.bool s16, .slice A16 n16 c16] = x22 from hx22)
   have HQ22s := hJ (show BX 58 x22 x1.heap.size #[.bool zb10_0_0, .slice zA10_0_1 zn10_0_1 zc10_0_1, .bool zb10_0_2, .slice zA10_0_3 zn10_0_3 zc10_0_3, .bool zb10_0_4, .slice zA10_0_5 zn10_0_5 zc10_0_5, .bool zb10_0_6, .slice zA10_0_7 zn10_0_7 zc10_0_7, .bool zb10_0_8, .slice zA10_0_9 zn10_0_9 zc10_0_9, .bool s16, .slice A16 n16 c16, .bool zb10_0_12, .slice zA10_0_13 zn10_0_13 zc10_0_13] by rw [← HE22.out]; exact BX.put HZ10_0w4.out _ _)
   have HZ10_1w4 := hJ (PIo.new HZ10_1.out HB21.out)
   have HZ10_1w5 := hJ (show PI x22 zb10_0_0 zA10_0_1 zn10_0_1 zc10_0_1 (xb - xa) by rw [← HE22.out]; exact PIo.sto HZ10_1w4.out HZ10_0w4.out rfl _ _)
   have HZ10_2w4 := hJ (PIo.new HZ10_2.out HB21.out)
   have HZ10_2w5 := hJ (show PI x22 zb10_0_2 zA10_0_3 zn10_0_3 zc10_0_3 (yc - ya) by rw [← HE22.out]; exact PIo.sto HZ10_2w4.out HZ10_0w4.out rfl _ _)
   have HZ10_3w4 := hJ (PIo.new HZ10_3.out HB21.out)
   have HZ10_3w5 := hJ (show PI x22 zb10_0_4 zA10_0_5 zn10_0_5 zc10_0_5 ((xb - xa) * (yc - ya)) by rw [← HE22.out]; exact PIo.sto HZ10_3w4.out HZ10_0w4.out rfl _ _)
   have HZ10_4w4 := hJ (PIo.new HZ10_4.out HB21.out)
   have HZ10_4w5 := hJ (show PI x22 zb10_0_6 zA10_0_7 zn10_0_7 zc10_0_7 (yb - ya) by rw [← HE22.out]; exact PIo.sto HZ10_4w4.out HZ10_0w4.out rfl _ _)
   have HZ10_5w4 := hJ (PIo.new HZ10_5.out HB21.out)
   have HZ10_5w5 := hJ (show PI x22 zb10_0_8 zA10_0_9 zn10_0_9 zc10_0_9 (xc - xa) by rw [← HE22.out]; exact PIo.sto HZ10_5w4.out HZ10_0w4.out rfl _ _)
   have HR21hr16w5 := hJ (show PI x22 s16 A16 n16 c16 ((yb - ya) * (xc - xa)) by rw [← HE22.out]; exact PIo.sto HR21hr16.out HZ10_0w4.out rfl _ _)
   have HZ10_7w4 := hJ (PIo.new HZ10_7.out HB21.out)
   have HZ10_7w5 := hJ (show PI x22 zb10_0_12 zA10_0_13 zn10_0_13 zc10_0_13 z6_10 by rw [← HE22.out]; exact PIo.sto HZ10_7w4.out HZ10_0w4.out rfl _ _)
   have HC1_5 := hJ (show Below x1.heap.size x1 x22 by rw [← HE22.out]; exact below_sto (bt HBW10.out HB21.out) HG2x0.out _ _)
   go_wp2_with fail
   clear fz22_0 fc22_0 fz22_1 fc22_1 fz22_2 fc22_2 fz22_3 fc22_3 fz22_4 fc22_4 fz22_5 fc22_5 fz22_6 fc22_6 fz22_7 fc22_7 fz22_8 fc22_8 fz22_9 fc22_9 fz22_10 fc22_10 fz22_11 fc22_11 fz22_12 fc22_12 fz22_13 fc22_13 hx22
   go_roundw
   case rel => exact ⟨5 + 1, zb10_0_0, zA10_0_1, zn10_0_1, zc10_0_1, zb10_0_2, zA10_0_3, zn10_0_3, zc10_0_3, zb10_0_4, zA10_0_5, zn10_0_5, zc10_0_5, zb10_0_6, zA10_0_7, zn10_0_7, zc10_0_7, zb10_0_8, zA10_0_9, zn10_0_9, zc10_0_9, s16, A16, n16, c16, zb10_0_12, zA10_0_13, zn10_0_13, zc10_0_13, (xb - xa), (yc - ya), ((xb - xa) * (yc - ya)), (yb - ya), (xc - xa), ((yb - ya) * (xc - xa)), z6_10, by omega, by go_num, HQ22s.out, HZ10_1w5.out, HZ10_2w5.out, HZ10_3w5.out, HZ10_4w5.out, HZ10_5w5.out, HR21hr16w5.out, HZ10_7w5.out, hJ (⟨fun _ => rfl, fun _ => rfl, fun _ => rfl, fun _ => rfl, fun _ => rfl, fun _ => rfl, fun h => absurd h (by decide)⟩), HC1_5.out⟩
   case measure => simp [intOf] <;> omega
  ·(try rw [show ((6 : Nat) : Int) = 6 from rfl])
   obtain rfl : xb - xa = z0_10 := (HI10.out.1 (by decide)).symm
   obtain rfl : yc - ya = z1_10 := (HI10.out.2.1 (by decide)).symm
   obtain rfl : (xb - xa) * (yc - ya) = z2_10 := (HI10.out.2.2.1 (by decide)).symm
   obtain rfl : yb - ya = z3_10 := (HI10.out.2.2.2.1 (by decide)).symm
   obtain rfl : xc - xa = z4_10 := (HI10.out.2.2.2.2.1 (by decide)).symm
   obtain rfl : (yb - ya) * (xc - xa) = z5_10 := (HI10.out.2.2.2.2.2.1 (by decide)).symm
   have hix : ∀ wx, (Instr.index 60 (.agg #[.func (.func 35) #[] #[.pointer (some ⟨w.heap.size, 0, none⟩), .pointer (some ⟨w.heap.size + 3, 0, none⟩), .pointer (some ⟨w.heap.size + 2, 0, none⟩)], .func (.func 36) #[] #[.pointer (some ⟨w.heap.size, 0, none⟩), .pointer (some ⟨w.heap.size + 4, 0, none⟩), .pointer (some ⟨w.heap.size + 2, 0, none⟩)], .func (.func 37) #[] #[.pointer (some ⟨w.heap.size + 1, 0, none⟩), .pointer (some ⟨x1.heap.size, 0, none⟩)], .func (.func 38) #[] #[.pointer (some ⟨w.heap.size, 0, none⟩), .pointer (some ⟨w.heap.size + 3, 0, none⟩), .pointer (some ⟨w.heap.size + 2, 0, none⟩)], .func (.func 39) #[] #[.pointer (some ⟨w.heap.size, 0, none⟩), .pointer (some ⟨w.heap.size + 4, 0, none⟩), .pointer (some ⟨w.heap.size + 2, 0, none⟩)], .func (.func 40) #[] #[.pointer (some ⟨w.heap.size + 1, 0, none⟩), .pointer (some ⟨x1.heap.size, 0, none⟩)], .func (.func 41) #[] #[.pointer (some ⟨w.heap.size, 0, none⟩), .pointer (some ⟨x1.heap.size, 0, none⟩)]]) (.int .i64 6)).run Try.prog wx = .ok (.func (.func 41) #[] #[.pointer (some ⟨w.heap.size, 0, none⟩), .pointer (some ⟨x1.heap.size, 0, none⟩)]) wx := fun wx => fx7_6 wx
   have HQ1x0w3 := hJ (BX.new HQ1x0.out HBW10.out)
   go_wp2_with fail
   clear hix
   refine (da7_any ((xb - xa) * (yc - ya)) ((yb - ya) * (xc - xa)) zb10_0_0 zA10_0_1 zn10_0_1 zc10_0_1 zb10_0_2 zA10_0_3 zn10_0_3 zc10_0_3 zb10_0_4 zA10_0_5 zn10_0_5 zc10_0_5 zb10_0_6 zA10_0_7 zn10_0_7 zc10_0_7 zb10_0_8 zA10_0_9 zn10_0_9 zc10_0_9 zb10_0_10 zA10_0_11 zn10_0_11 zc10_0_11 zb10_0_12 zA10_0_13 zn10_0_13 zc10_0_13 w.heap.size x1.heap.size wl10 HQ1x0w3.out HZ10_0.out HZ10_3.out HZ10_6.out (nk_lim HM.out.1) (nk_lim HM.out.2) (nk_lim (nk_sub HM.out.1 HM.out.2))).mono ?_
   rintro e w23 ⟨s17, A17, n17, c17, rfl, hr17, hb⟩
   have HB23 := hJ hb
   have HR23hr17 := hJ hr17
   clear hb hr17
   have HZ10_0w4 := hJ (BX.new HZ10_0.out HB23.out)
   have fz24_0 := HZ10_0w4.out.frozen 0
   have fc24_0 := HZ10_0w4.out.cell 0 rfl
   have fz24_1 := HZ10_0w4.out.frozen 1
   have fc24_1 := HZ10_0w4.out.cell 1 rfl
   have fz24_2 := HZ10_0w4.out.frozen 2
   have fc24_2 := HZ10_0w4.out.cell 2 rfl
   have fz24_3 := HZ10_0w4.out.frozen 3
   have fc24_3 := HZ10_0w4.out.cell 3 rfl
   have fz24_4 := HZ10_0w4.out.frozen 4
   have fc24_4 := HZ10_0w4.out.cell 4 rfl
   have fz24_5 := HZ10_0w4.out.frozen 5
   have fc24_5 := HZ10_0w4.out.cell 5 rfl
   have fz24_6 := HZ10_0w4.out.frozen 6
   have fc24_6 := HZ10_0w4.out.cell 6 rfl
   have fz24_7 := HZ10_0w4.out.frozen 7
   have fc24_7 := HZ10_0w4.out.cell 7 rfl
   have fz24_8 := HZ10_0w4.out.frozen 8
   have fc24_8 := HZ10_0w4.out.cell 8 rfl
   have fz24_9 := HZ10_0w4.out.frozen 9
   have fc24_9 := HZ10_0w4.out.cell 9 rfl
   have fz24_10 := HZ10_0w4.out.frozen 10
   have fc24_10 := HZ10_0w4.out.cell 10 rfl
   have fz24_11 := HZ10_0w4.out.frozen 11
   have fc24_11 := HZ10_0w4.out.cell 11 rfl
   have fz24_12 := HZ10_0w4.out.frozen 12
   have fc24_12 := HZ10_0w4.out.cell 12 rfl
   have fz24_13 := HZ10_0w4.out.frozen 13
   have fc24_13 := HZ10_0w4.out.cell 13 rfl
   obtain ⟨x24, hx24⟩ := nmz (World.setCell (World.setCell w23 ⟨x1.heap.size, 12, none⟩ (.bool s17)) ⟨x1.heap.size, 13, none⟩ (.slice A17 n17 c17))
   have HE24 := hJ (show sto w23 x1.heap.size 12 [.bool s17, .slice A17 n17 c17] = x24 from hx24)
   have HQ24s := hJ (show BX 58 x24 x1.heap.size #[.bool zb10_0_0, .slice zA10_0_1 zn10_0_1 zc10_0_1, .bool zb10_0_2, .slice zA10_0_3 zn10_0_3 zc10_0_3, .bool zb10_0_4, .slice zA10_0_5 zn10_0_5 zc10_0_5, .bool zb10_0_6, .slice zA10_0_7 zn10_0_7 zc10_0_7, .bool zb10_0_8, .slice zA10_0_9 zn10_0_9 zc10_0_9, .bool zb10_0_10, .slice zA10_0_11 zn10_0_11 zc10_0_11, .bool s17, .slice A17 n17 c17] by rw [← HE24.out]; exact BX.put HZ10_0w4.out _ _)
   have HZ10_1w4 := hJ (PIo.new HZ10_1.out HB23.out)
   have HZ10_1w5 := hJ (show PI x24 zb10_0_0 zA10_0_1 zn10_0_1 zc10_0_1 (xb - xa) by rw [← HE24.out]; exact PIo.sto HZ10_1w4.out HZ10_0w4.out rfl _ _)
   have HZ10_2w4 := hJ (PIo.new HZ10_2.out HB23.out)
   have HZ10_2w5 := hJ (show PI x24 zb10_0_2 zA10_0_3 zn10_0_3 zc10_0_3 (yc - ya) by rw [← HE24.out]; exact PIo.sto HZ10_2w4.out HZ10_0w4.out rfl _ _)
   have HZ10_3w4 := hJ (PIo.new HZ10_3.out HB23.out)
   have HZ10_3w5 := hJ (show PI x24 zb10_0_4 zA10_0_5 zn10_0_5 zc10_0_5 ((xb - xa) * (yc - ya)) by rw [← HE24.out]; exact PIo.sto HZ10_3w4.out HZ10_0w4.out rfl _ _)
   have HZ10_4w4 := hJ (PIo.new HZ10_4.out HB23.out)
   have HZ10_4w5 := hJ (show PI x24 zb10_0_6 zA10_0_7 zn10_0_7 zc10_0_7 (yb - ya) by rw [← HE24.out]; exact PIo.sto HZ10_4w4.out HZ10_0w4.out rfl _ _)
   have HZ10_5w4 := hJ (PIo.new HZ10_5.out HB23.out)
   have HZ10_5w5 := hJ (show PI x24 zb10_0_8 zA10_0_9 zn10_0_9 zc10_0_9 (xc - xa) by rw [← HE24.out]; exact PIo.sto HZ10_5w4.out HZ10_0w4.out rfl _ _)
   have HZ10_6w4 := hJ (PIo.new HZ10_6.out HB23.out)
   have HZ10_6w5 := hJ (show PI x24 zb10_0_10 zA10_0_11 zn10_0_11 zc10_0_11 ((yb - ya) * (xc - xa)) by rw [← HE24.out]; exact PIo.sto HZ10_6w4.out HZ10_0w4.out rfl _ _)
   have HR23hr17w5 := hJ (show PI x24 s17 A17 n17 c17 (((xb - xa) * (yc - ya)) - ((yb - ya) * (xc - xa))) by rw [← HE24.out]; exact PIo.sto HR23hr17.out HZ10_0w4.out rfl _ _)
   have HC1_5 := hJ (show Below x1.heap.size x1 x24 by rw [← HE24.out]; exact below_sto (bt HBW10.out HB23.out) HG2x0.out _ _)
   go_wp2_with fail
   clear fz24_0 fc24_0 fz24_1 fc24_1 fz24_2 fc24_2 fz24_3 fc24_3 fz24_4 fc24_4 fz24_5 fc24_5 fz24_6 fc24_6 fz24_7 fc24_7 fz24_8 fc24_8 fz24_9 fc24_9 fz24_10 fc24_10 fz24_11 fc24_11 fz24_12 fc24_12 fz24_13 fc24_13 hx24
   go_roundw
   case rel => exact ⟨6 + 1, zb10_0_0, zA10_0_1, zn10_0_1, zc10_0_1, zb10_0_2, zA10_0_3, zn10_0_3, zc10_0_3, zb10_0_4, zA10_0_5, zn10_0_5, zc10_0_5, zb10_0_6, zA10_0_7, zn10_0_7, zc10_0_7, zb10_0_8, zA10_0_9, zn10_0_9, zc10_0_9, zb10_0_10, zA10_0_11, zn10_0_11, zc10_0_11, s17, A17, n17, c17, (xb - xa), (yc - ya), ((xb - xa) * (yc - ya)), (yb - ya), (xc - xa), ((yb - ya) * (xc - xa)), (((xb - xa) * (yc - ya)) - ((yb - ya) * (xc - xa))), by omega, by go_num, HQ24s.out, HZ10_1w5.out, HZ10_2w5.out, HZ10_3w5.out, HZ10_4w5.out, HZ10_5w5.out, HZ10_6w5.out, HR23hr17w5.out, hJ (⟨fun _ => rfl, fun _ => rfl, fun _ => rfl, fun _ => rfl, fun _ => rfl, fun _ => rfl, fun _ => rfl⟩), HC1_5.out⟩
   case measure => simp [intOf] <;> omega
  ·(try rw [show ((7 : Nat) : Int) = 7 from rfl])
   obtain rfl : xb - xa = z0_10 := (HI10.out.1 (by decide)).symm
   obtain rfl : yc - ya = z1_10 := (HI10.out.2.1 (by decide)).symm
   obtain rfl : (xb - xa) * (yc - ya) = z2_10 := (HI10.out.2.2.1 (by decide)).symm
   obtain rfl : yb - ya = z3_10 := (HI10.out.2.2.2.1 (by decide)).symm
   obtain rfl : xc - xa = z4_10 := (HI10.out.2.2.2.2.1 (by decide)).symm
   obtain rfl : (yb - ya) * (xc - xa) = z5_10 := (HI10.out.2.2.2.2.2.1 (by decide)).symm
   obtain rfl : ((xb - xa) * (yc - ya)) - ((yb - ya) * (xc - xa)) = z6_10 := (HI10.out.2.2.2.2.2.2 (by decide)).symm
   obtain ⟨cl25, cl26⟩ := HZ10_0.out.c2 12 13 rfl rfl
   have HQ1x5w3 := hJ (BX.new HQ1x5.out HBW10.out)
   have fz27_0 := HQ1x5w3.out.frozen 0
   have fc27_0 := HQ1x5w3.out.cell 0 rfl
   have fz27_1 := HQ1x5w3.out.frozen 1
   have fc27_1 := HQ1x5w3.out.cell 1 rfl
   obtain ⟨x27, hx27⟩ := nmz (World.setCell (World.setCell wl10 ⟨w.heap.size + 5, 0, none⟩ (.bool zb10_0_12)) ⟨w.heap.size + 5, 1, none⟩ (.slice zA10_0_13 zn10_0_13 zc10_0_13))
   have HE27 := hJ (show sto wl10 (w.heap.size + 5) 0 [.bool zb10_0_12, .slice zA10_0_13 zn10_0_13 zc10_0_13] = x27 from hx27)
   have HQ27s := hJ (show BX 48 x27 (w.heap.size + 5) #[.bool zb10_0_12, .slice zA10_0_13 zn10_0_13 zc10_0_13] by rw [← HE27.out]; exact BX.put HQ1x5w3.out _ _)
   have HC0_4 := hJ (show Below w.heap.size w x27 by rw [← HE27.out]; exact below_sto HBX10_0.out HG1x5.out _ _)
   have HZ10_7w4 := hJ (show PI x27 zb10_0_12 zA10_0_13 zn10_0_13 zc10_0_13 (((xb - xa) * (yc - ya)) - ((yb - ya) * (xc - xa))) by rw [← HE27.out]; exact PIo.sto HZ10_7.out HQ1x5w3.out rfl _ _)
   go_wp2
   clear cl25 cl26 fz27_0 fc27_0 fz27_1 fc27_1 hx27
   exact bodyPost_ret (results_cell1 rfl _ _ _ _ _ _ _ rfl HQ27s.out Try.underlying48 rfl W_size) rfl ⟨zb10_0_12, zA10_0_13, zn10_0_13, zc10_0_13, rfl, HZ10_7w4.out, HC0_4.out⟩
end Go.Proofs.Ytdamadkhbeonaaa
