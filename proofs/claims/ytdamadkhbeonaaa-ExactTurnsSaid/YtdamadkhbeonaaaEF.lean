/- Contracts: the steps of doubledArea over integers. Conditions: as each statement has them. -/
import Derived.Test.YtdamadkhbeonaaaAK
namespace Go.Proofs.Ytdamadkhbeonaaa
open Go.RowKit
attribute [local go_sem ↓] Go.wp_at_zero Go.wp_at_succ
set_option linter.unusedVariables false
set_option linter.unusedSimpArgs false
theorem fx7_0 {v0 v1 v2 v3 v4 v5 v6 : Value} (wx : World) : (Instr.index 60 (.agg #[v0, v1, v2, v3, v4, v5, v6]) (.int .i64 0)).run Try.prog wx = .ok v0 wx := by
 first
  | kernel_rfl
  | simp [Instr.index, run_underlying Try.underlying60, asIntOf, go_sem]
theorem fx7_1 {v0 v1 v2 v3 v4 v5 v6 : Value} (wx : World) : (Instr.index 60 (.agg #[v0, v1, v2, v3, v4, v5, v6]) (.int .i64 1)).run Try.prog wx = .ok v1 wx := by
 first
  | kernel_rfl
  | simp [Instr.index, run_underlying Try.underlying60, asIntOf, go_sem]
theorem fx7_2 {v0 v1 v2 v3 v4 v5 v6 : Value} (wx : World) : (Instr.index 60 (.agg #[v0, v1, v2, v3, v4, v5, v6]) (.int .i64 2)).run Try.prog wx = .ok v2 wx := by
 first
  | kernel_rfl
  | simp [Instr.index, run_underlying Try.underlying60, asIntOf, go_sem]
theorem fx7_3 {v0 v1 v2 v3 v4 v5 v6 : Value} (wx : World) : (Instr.index 60 (.agg #[v0, v1, v2, v3, v4, v5, v6]) (.int .i64 3)).run Try.prog wx = .ok v3 wx := by
 first
  | kernel_rfl
  | simp [Instr.index, run_underlying Try.underlying60, asIntOf, go_sem]
theorem fx7_4 {v0 v1 v2 v3 v4 v5 v6 : Value} (wx : World) : (Instr.index 60 (.agg #[v0, v1, v2, v3, v4, v5, v6]) (.int .i64 4)).run Try.prog wx = .ok v4 wx := by
 first
  | kernel_rfl
  | simp [Instr.index, run_underlying Try.underlying60, asIntOf, go_sem]
theorem fx7_5 {v0 v1 v2 v3 v4 v5 v6 : Value} (wx : World) : (Instr.index 60 (.agg #[v0, v1, v2, v3, v4, v5, v6]) (.int .i64 5)).run Try.prog wx = .ok v5 wx := by
 first
  | kernel_rfl
  | simp [Instr.index, run_underlying Try.underlying60, asIntOf, go_sem]
theorem fx7_6 {v0 v1 v2 v3 v4 v5 v6 : Value} (wx : World) : (Instr.index 60 (.agg #[v0, v1, v2, v3, v4, v5, v6]) (.int .i64 6)).run Try.prog wx = .ok v6 wx := by
 first
  | kernel_rfl
  | simp [Instr.index, run_underlying Try.underlying60, asIntOf, go_sem]
set_option maxRecDepth 100000 in
set_option maxHeartbeats 1600000 in
theorem da1_any (x y : Int) (s0 : Bool) (A0 : Option Addr) (n0 c0 : Nat) (s1 : Bool) (A1 : Option Addr) (n1 c1 : Nat) (s2 : Bool) (A2 : Option Addr) (n2 c2 : Nat) (s3 : Bool) (A3 : Option Addr) (n3 c3 : Nat) (gf gb ga : Nat) (w : World) (hf : BX 51 w gf #[.func (.func 24) #[] #[]]) (hb0 : BX 52 w gb #[.bool s0, .slice A0 n0 c0, .bool s1, .slice A1 n1 c1]) (ha0 : BX 52 w ga #[.bool s2, .slice A2 n2 c2, .bool s3, .slice A3 n3 c3]) (hx : PI w s0 A0 n0 c0 x) (hy : PI w s2 A2 n2 c2 y) (lx : x.natAbs < lim) (ly : y.natAbs < lim) (lz : (x - y).natAbs < lim) :
  Calls Try.prog 35 #[.pointer (some ⟨gf, 0, none⟩), .pointer (some ⟨gb, 0, none⟩), .pointer (some ⟨ga, 0, none⟩)] w (RetPE (x - y) 0 w) := by
 have HF := hJ hf
 have HB := hJ hb0
 have HA := hJ ha0
 have HX := hJ hx
 have HY := hJ hy
 have HL := hJ (And.intro lx (And.intro ly lz))
 clear hf hb0 hx hy lx ly lz ha0
 obtain ⟨x1, hx1⟩ := nmz (w.alloc (.cells #[.bool false, .slice none 0 0] 48))
 have HB1 := hJ (show Below w.heap.size w x1 by rw [← hx1]; exact ((Below.refl _ _).alloc (Nat.le_refl _) _))
 have HQ1x0 := hJ (show BX 48 x1 w.heap.size #[.bool false, .slice none 0 0] by rw [← hx1]; exact (BX.at rfl))
 have HG1x0 := hJ (show w.heap.size ≤ w.heap.size by omega)
 have HL1x0 := hJ (show w.heap.size < x1.heap.size from HQ1x0.out.lt)
 have HFw1 := hJ (BX.new HF.out HB1.out)
 have cl2 := HFw1.out.cell 0 rfl
 have HBw1 := hJ (BX.new HB.out HB1.out)
 obtain ⟨cl3, cl4⟩ := HBw1.out.c2 0 1 rfl rfl
 have HAw1 := hJ (BX.new HA.out HB1.out)
 obtain ⟨cl5, cl6⟩ := HAw1.out.c2 0 1 rfl rfl
 have HXw1 := hJ (PIo.new HX.out HB1.out)
 have HYw1 := hJ (PIo.new HY.out HB1.out)
 go_enter Try.func35, Try.ntmps35
 go_wp2_with fail
 clear hx1 cl2 cl3 cl4 cl5 cl6
 refine (psub_any x y s0 s2 A0 A2 n0 c0 n2 c2 x1 HXw1.out HYw1.out (Nat.le_trans (plim HXw1.out HL.out.1) (by decide)) (Nat.le_trans (plim HYw1.out HL.out.2.1) (by decide)) HL.out.1 HL.out.2.1).mono ?_
 rw [(in_lim HL.out.2.2).1, (in_lim HL.out.2.2).2]
 rintro e w7 ⟨s11, A11, n11, c11, rfl, hr11, hb⟩
 have HB7 := hJ hb
 have HR7hr11 := hJ hr11
 clear hb hr11
 have HQ1x0w2 := hJ (BX.new HQ1x0.out HB7.out)
 have fz8_0 := HQ1x0w2.out.frozen 0
 have fc8_0 := HQ1x0w2.out.cell 0 rfl
 have fz8_1 := HQ1x0w2.out.frozen 1
 have fc8_1 := HQ1x0w2.out.cell 1 rfl
 obtain ⟨x8, hx8⟩ := nmz (World.setCell (World.setCell w7 ⟨w.heap.size, 0, none⟩ (.bool s11)) ⟨w.heap.size, 1, none⟩ (.slice A11 n11 c11))
 have HE8 := hJ (show sto w7 w.heap.size 0 [.bool s11, .slice A11 n11 c11] = x8 from hx8)
 have HQ8s := hJ (show BX 48 x8 w.heap.size #[.bool s11, .slice A11 n11 c11] by rw [← HE8.out]; exact BX.put HQ1x0w2.out _ _)
 have HC0_3 := hJ (show Below w.heap.size w x8 by rw [← HE8.out]; exact below_sto (bt HB1.out HB7.out) HG1x0.out _ _)
 have HR7hr11w3 := hJ (show PI x8 s11 A11 n11 c11 (x - y) by rw [← HE8.out]; exact PIo.sto HR7hr11.out HQ1x0w2.out rfl _ _)
 go_wp2
 clear fz8_0 fc8_0 fz8_1 fc8_1 hx8
 exact bodyPost_ret (results_cell1 rfl _ _ _ _ _ _ _ rfl HQ8s.out Try.underlying48 rfl W_size) rfl ⟨s11, A11, n11, c11, rfl, HR7hr11w3.out, HC0_3.out⟩
set_option maxRecDepth 100000 in
set_option maxHeartbeats 1600000 in
theorem da2_any (x y : Int) (s0 : Bool) (A0 : Option Addr) (n0 c0 : Nat) (s1 : Bool) (A1 : Option Addr) (n1 c1 : Nat) (s2 : Bool) (A2 : Option Addr) (n2 c2 : Nat) (s3 : Bool) (A3 : Option Addr) (n3 c3 : Nat) (gf gb ga : Nat) (w : World) (hf : BX 51 w gf #[.func (.func 24) #[] #[]]) (hb0 : BX 52 w gb #[.bool s0, .slice A0 n0 c0, .bool s1, .slice A1 n1 c1]) (ha0 : BX 52 w ga #[.bool s2, .slice A2 n2 c2, .bool s3, .slice A3 n3 c3]) (hx : PI w s1 A1 n1 c1 x) (hy : PI w s3 A3 n3 c3 y) (lx : x.natAbs < lim) (ly : y.natAbs < lim) (lz : (x - y).natAbs < lim) :
  Calls Try.prog 36 #[.pointer (some ⟨gf, 0, none⟩), .pointer (some ⟨gb, 0, none⟩), .pointer (some ⟨ga, 0, none⟩)] w (RetPE (x - y) 0 w) := by
 have HF := hJ hf
 have HB := hJ hb0
 have HA := hJ ha0
 have HX := hJ hx
 have HY := hJ hy
 have HL := hJ (And.intro lx (And.intro ly lz))
 clear hf hb0 hx hy lx ly lz ha0
 obtain ⟨x1, hx1⟩ := nmz (w.alloc (.cells #[.bool false, .slice none 0 0] 48))
 have HB1 := hJ (show Below w.heap.size w x1 by rw [← hx1]; exact ((Below.refl _ _).alloc (Nat.le_refl _) _))
 have HQ1x0 := hJ (show BX 48 x1 w.heap.size #[.bool false, .slice none 0 0] by rw [← hx1]; exact (BX.at rfl))
 have HG1x0 := hJ (show w.heap.size ≤ w.heap.size by omega)
 have HL1x0 := hJ (show w.heap.size < x1.heap.size from HQ1x0.out.lt)
 have HFw1 := hJ (BX.new HF.out HB1.out)
 have cl2 := HFw1.out.cell 0 rfl
 have HBw1 := hJ (BX.new HB.out HB1.out)
 obtain ⟨cl3, cl4⟩ := HBw1.out.c2 2 3 rfl rfl
 have HAw1 := hJ (BX.new HA.out HB1.out)
 obtain ⟨cl5, cl6⟩ := HAw1.out.c2 2 3 rfl rfl
 have HXw1 := hJ (PIo.new HX.out HB1.out)
 have HYw1 := hJ (PIo.new HY.out HB1.out)
 go_enter Try.func36, Try.ntmps36
 go_wp2_with fail
 clear hx1 cl2 cl3 cl4 cl5 cl6
 refine (psub_any x y s1 s3 A1 A3 n1 c1 n3 c3 x1 HXw1.out HYw1.out (Nat.le_trans (plim HXw1.out HL.out.1) (by decide)) (Nat.le_trans (plim HYw1.out HL.out.2.1) (by decide)) HL.out.1 HL.out.2.1).mono ?_
 rw [(in_lim HL.out.2.2).1, (in_lim HL.out.2.2).2]
 rintro e w7 ⟨s11, A11, n11, c11, rfl, hr11, hb⟩
 have HB7 := hJ hb
 have HR7hr11 := hJ hr11
 clear hb hr11
 have HQ1x0w2 := hJ (BX.new HQ1x0.out HB7.out)
 have fz8_0 := HQ1x0w2.out.frozen 0
 have fc8_0 := HQ1x0w2.out.cell 0 rfl
 have fz8_1 := HQ1x0w2.out.frozen 1
 have fc8_1 := HQ1x0w2.out.cell 1 rfl
 obtain ⟨x8, hx8⟩ := nmz (World.setCell (World.setCell w7 ⟨w.heap.size, 0, none⟩ (.bool s11)) ⟨w.heap.size, 1, none⟩ (.slice A11 n11 c11))
 have HE8 := hJ (show sto w7 w.heap.size 0 [.bool s11, .slice A11 n11 c11] = x8 from hx8)
 have HQ8s := hJ (show BX 48 x8 w.heap.size #[.bool s11, .slice A11 n11 c11] by rw [← HE8.out]; exact BX.put HQ1x0w2.out _ _)
 have HC0_3 := hJ (show Below w.heap.size w x8 by rw [← HE8.out]; exact below_sto (bt HB1.out HB7.out) HG1x0.out _ _)
 have HR7hr11w3 := hJ (show PI x8 s11 A11 n11 c11 (x - y) by rw [← HE8.out]; exact PIo.sto HR7hr11.out HQ1x0w2.out rfl _ _)
 go_wp2
 clear fz8_0 fc8_0 fz8_1 fc8_1 hx8
 exact bodyPost_ret (results_cell1 rfl _ _ _ _ _ _ _ rfl HQ8s.out Try.underlying48 rfl W_size) rfl ⟨s11, A11, n11, c11, rfl, HR7hr11w3.out, HC0_3.out⟩
set_option maxRecDepth 100000 in
set_option maxHeartbeats 1600000 in
theorem da3_any (x y : Int) (s0 : Bool) (A0 : Option Addr) (n0 c0 : Nat) (s1 : Bool) (A1 : Option Addr) (n1 c1 : Nat) (s2 : Bool) (A2 : Option Addr) (n2 c2 : Nat) (s3 : Bool) (A3 : Option Addr) (n3 c3 : Nat) (s4 : Bool) (A4 : Option Addr) (n4 c4 : Nat) (s5 : Bool) (A5 : Option Addr) (n5 c5 : Nat) (s6 : Bool) (A6 : Option Addr) (n6 c6 : Nat) (gf gb : Nat) (w : World) (hf : BX 51 w gf #[.func (.func 25) #[] #[]]) (hb0 : BX 58 w gb #[.bool s0, .slice A0 n0 c0, .bool s1, .slice A1 n1 c1, .bool s2, .slice A2 n2 c2, .bool s3, .slice A3 n3 c3, .bool s4, .slice A4 n4 c4, .bool s5, .slice A5 n5 c5, .bool s6, .slice A6 n6 c6]) (hx : PI w s0 A0 n0 c0 x) (hy : PI w s1 A1 n1 c1 y) (lx : x.natAbs < lim) (ly : y.natAbs < lim) (lz : (x * y).natAbs < lim) :
  Calls Try.prog 37 #[.pointer (some ⟨gf, 0, none⟩), .pointer (some ⟨gb, 0, none⟩)] w (RetPE (x * y) 0 w) := by
 have HF := hJ hf
 have HB := hJ hb0
 have HX := hJ hx
 have HY := hJ hy
 have HL := hJ (And.intro lx (And.intro ly lz))
 clear hf hb0 hx hy lx ly lz
 obtain ⟨x1, hx1⟩ := nmz (w.alloc (.cells #[.bool false, .slice none 0 0] 48))
 have HB1 := hJ (show Below w.heap.size w x1 by rw [← hx1]; exact ((Below.refl _ _).alloc (Nat.le_refl _) _))
 have HQ1x0 := hJ (show BX 48 x1 w.heap.size #[.bool false, .slice none 0 0] by rw [← hx1]; exact (BX.at rfl))
 have HG1x0 := hJ (show w.heap.size ≤ w.heap.size by omega)
 have HL1x0 := hJ (show w.heap.size < x1.heap.size from HQ1x0.out.lt)
 have HFw1 := hJ (BX.new HF.out HB1.out)
 have cl2 := HFw1.out.cell 0 rfl
 have HBw1 := hJ (BX.new HB.out HB1.out)
 obtain ⟨cl3, cl4⟩ := HBw1.out.c2 0 1 rfl rfl
 obtain ⟨cl5, cl6⟩ := HBw1.out.c2 2 3 rfl rfl
 have HXw1 := hJ (PIo.new HX.out HB1.out)
 have HYw1 := hJ (PIo.new HY.out HB1.out)
 go_enter Try.func37, Try.ntmps37
 go_wp2_with fail
 clear hx1 cl2 cl3 cl4 cl5 cl6
 refine (pmul_any x y s0 s1 A0 A1 n0 c0 n1 c1 x1 HXw1.out HYw1.out (Nat.le_trans (plim HXw1.out HL.out.1) (by decide)) (Nat.le_trans (plim HYw1.out HL.out.2.1) (by decide))).mono ?_
 rw [(in_lim HL.out.2.2).1, (in_lim HL.out.2.2).2]
 rintro e w7 ⟨s11, A11, n11, c11, rfl, hr11, hb⟩
 have HB7 := hJ hb
 have HR7hr11 := hJ hr11
 clear hb hr11
 have HQ1x0w2 := hJ (BX.new HQ1x0.out HB7.out)
 have fz8_0 := HQ1x0w2.out.frozen 0
 have fc8_0 := HQ1x0w2.out.cell 0 rfl
 have fz8_1 := HQ1x0w2.out.frozen 1
 have fc8_1 := HQ1x0w2.out.cell 1 rfl
 obtain ⟨x8, hx8⟩ := nmz (World.setCell (World.setCell w7 ⟨w.heap.size, 0, none⟩ (.bool s11)) ⟨w.heap.size, 1, none⟩ (.slice A11 n11 c11))
 have HE8 := hJ (show sto w7 w.heap.size 0 [.bool s11, .slice A11 n11 c11] = x8 from hx8)
 have HQ8s := hJ (show BX 48 x8 w.heap.size #[.bool s11, .slice A11 n11 c11] by rw [← HE8.out]; exact BX.put HQ1x0w2.out _ _)
 have HC0_3 := hJ (show Below w.heap.size w x8 by rw [← HE8.out]; exact below_sto (bt HB1.out HB7.out) HG1x0.out _ _)
 have HR7hr11w3 := hJ (show PI x8 s11 A11 n11 c11 (x * y) by rw [← HE8.out]; exact PIo.sto HR7hr11.out HQ1x0w2.out rfl _ _)
 go_wp2
 clear fz8_0 fc8_0 fz8_1 fc8_1 hx8
 exact bodyPost_ret (results_cell1 rfl _ _ _ _ _ _ _ rfl HQ8s.out Try.underlying48 rfl W_size) rfl ⟨s11, A11, n11, c11, rfl, HR7hr11w3.out, HC0_3.out⟩
set_option maxRecDepth 100000 in
set_option maxHeartbeats 1600000 in
theorem da4_any (x y : Int) (s0 : Bool) (A0 : Option Addr) (n0 c0 : Nat) (s1 : Bool) (A1 : Option Addr) (n1 c1 : Nat) (s2 : Bool) (A2 : Option Addr) (n2 c2 : Nat) (s3 : Bool) (A3 : Option Addr) (n3 c3 : Nat) (gf gb ga : Nat) (w : World) (hf : BX 51 w gf #[.func (.func 24) #[] #[]]) (hb0 : BX 52 w gb #[.bool s0, .slice A0 n0 c0, .bool s1, .slice A1 n1 c1]) (ha0 : BX 52 w ga #[.bool s2, .slice A2 n2 c2, .bool s3, .slice A3 n3 c3]) (hx : PI w s1 A1 n1 c1 x) (hy : PI w s3 A3 n3 c3 y) (lx : x.natAbs < lim) (ly : y.natAbs < lim) (lz : (x - y).natAbs < lim) :
  Calls Try.prog 38 #[.pointer (some ⟨gf, 0, none⟩), .pointer (some ⟨gb, 0, none⟩), .pointer (some ⟨ga, 0, none⟩)] w (RetPE (x - y) 0 w) := by
 have HF := hJ hf
 have HB := hJ hb0
 have HA := hJ ha0
 have HX := hJ hx
 have HY := hJ hy
 have HL := hJ (And.intro lx (And.intro ly lz))
 clear hf hb0 hx hy lx ly lz ha0
 obtain ⟨x1, hx1⟩ := nmz (w.alloc (.cells #[.bool false, .slice none 0 0] 48))
 have HB1 := hJ (show Below w.heap.size w x1 by rw [← hx1]; exact ((Below.refl _ _).alloc (Nat.le_refl _) _))
 have HQ1x0 := hJ (show BX 48 x1 w.heap.size #[.bool false, .slice none 0 0] by rw [← hx1]; exact (BX.at rfl))
 have HG1x0 := hJ (show w.heap.size ≤ w.heap.size by omega)
 have HL1x0 := hJ (show w.heap.size < x1.heap.size from HQ1x0.out.lt)
 have HFw1 := hJ (BX.new HF.out HB1.out)
 have cl2 := HFw1.out.cell 0 rfl
 have HBw1 := hJ (BX.new HB.out HB1.out)
 obtain ⟨cl3, cl4⟩ := HBw1.out.c2 2 3 rfl rfl
 have HAw1 := hJ (BX.new HA.out HB1.out)
 obtain ⟨cl5, cl6⟩ := HAw1.out.c2 2 3 rfl rfl
 have HXw1 := hJ (PIo.new HX.out HB1.out)
 have HYw1 := hJ (PIo.new HY.out HB1.out)
 go_enter Try.func38, Try.ntmps38
 go_wp2_with fail
 clear hx1 cl2 cl3 cl4 cl5 cl6
 refine (psub_any x y s1 s3 A1 A3 n1 c1 n3 c3 x1 HXw1.out HYw1.out (Nat.le_trans (plim HXw1.out HL.out.1) (by decide)) (Nat.le_trans (plim HYw1.out HL.out.2.1) (by decide)) HL.out.1 HL.out.2.1).mono ?_
 rw [(in_lim HL.out.2.2).1, (in_lim HL.out.2.2).2]
 rintro e w7 ⟨s11, A11, n11, c11, rfl, hr11, hb⟩
 have HB7 := hJ hb
 have HR7hr11 := hJ hr11
 clear hb hr11
 have HQ1x0w2 := hJ (BX.new HQ1x0.out HB7.out)
 have fz8_0 := HQ1x0w2.out.frozen 0
 have fc8_0 := HQ1x0w2.out.cell 0 rfl
 have fz8_1 := HQ1x0w2.out.frozen 1
 have fc8_1 := HQ1x0w2.out.cell 1 rfl
 obtain ⟨x8, hx8⟩ := nmz (World.setCell (World.setCell w7 ⟨w.heap.size, 0, none⟩ (.bool s11)) ⟨w.heap.size, 1, none⟩ (.slice A11 n11 c11))
 have HE8 := hJ (show sto w7 w.heap.size 0 [.bool s11, .slice A11 n11 c11] = x8 from hx8)
 have HQ8s := hJ (show BX 48 x8 w.heap.size #[.bool s11, .slice A11 n11 c11] by rw [← HE8.out]; exact BX.put HQ1x0w2.out _ _)
 have HC0_3 := hJ (show Below w.heap.size w x8 by rw [← HE8.out]; exact below_sto (bt HB1.out HB7.out) HG1x0.out _ _)
 have HR7hr11w3 := hJ (show PI x8 s11 A11 n11 c11 (x - y) by rw [← HE8.out]; exact PIo.sto HR7hr11.out HQ1x0w2.out rfl _ _)
 go_wp2
 clear fz8_0 fc8_0 fz8_1 fc8_1 hx8
 exact bodyPost_ret (results_cell1 rfl _ _ _ _ _ _ _ rfl HQ8s.out Try.underlying48 rfl W_size) rfl ⟨s11, A11, n11, c11, rfl, HR7hr11w3.out, HC0_3.out⟩
set_option maxRecDepth 100000 in
set_option maxHeartbeats 1600000 in
theorem da5_any (x y : Int) (s0 : Bool) (A0 : Option Addr) (n0 c0 : Nat) (s1 : Bool) (A1 : Option Addr) (n1 c1 : Nat) (s2 : Bool) (A2 : Option Addr) (n2 c2 : Nat) (s3 : Bool) (A3 : Option Addr) (n3 c3 : Nat) (gf gb ga : Nat) (w : World) (hf : BX 51 w gf #[.func (.func 24) #[] #[]]) (hb0 : BX 52 w gb #[.bool s0, .slice A0 n0 c0, .bool s1, .slice A1 n1 c1]) (ha0 : BX 52 w ga #[.bool s2, .slice A2 n2 c2, .bool s3, .slice A3 n3 c3]) (hx : PI w s0 A0 n0 c0 x) (hy : PI w s2 A2 n2 c2 y) (lx : x.natAbs < lim) (ly : y.natAbs < lim) (lz : (x - y).natAbs < lim) :
  Calls Try.prog 39 #[.pointer (some ⟨gf, 0, none⟩), .pointer (some ⟨gb, 0, none⟩), .pointer (some ⟨ga, 0, none⟩)] w (RetPE (x - y) 0 w) := by
 have HF := hJ hf
 have HB := hJ hb0
 have HA := hJ ha0
 have HX := hJ hx
 have HY := hJ hy
 have HL := hJ (And.intro lx (And.intro ly lz))
 clear hf hb0 hx hy lx ly lz ha0
 obtain ⟨x1, hx1⟩ := nmz (w.alloc (.cells #[.bool false, .slice none 0 0] 48))
 have HB1 := hJ (show Below w.heap.size w x1 by rw [← hx1]; exact ((Below.refl _ _).alloc (Nat.le_refl _) _))
 have HQ1x0 := hJ (show BX 48 x1 w.heap.size #[.bool false, .slice none 0 0] by rw [← hx1]; exact (BX.at rfl))
 have HG1x0 := hJ (show w.heap.size ≤ w.heap.size by omega)
 have HL1x0 := hJ (show w.heap.size < x1.heap.size from HQ1x0.out.lt)
 have HFw1 := hJ (BX.new HF.out HB1.out)
 have cl2 := HFw1.out.cell 0 rfl
 have HBw1 := hJ (BX.new HB.out HB1.out)
 obtain ⟨cl3, cl4⟩ := HBw1.out.c2 0 1 rfl rfl
 have HAw1 := hJ (BX.new HA.out HB1.out)
 obtain ⟨cl5, cl6⟩ := HAw1.out.c2 0 1 rfl rfl
 have HXw1 := hJ (PIo.new HX.out HB1.out)
 have HYw1 := hJ (PIo.new HY.out HB1.out)
 go_enter Try.func39, Try.ntmps39
 go_wp2_with fail
 clear hx1 cl2 cl3 cl4 cl5 cl6
 refine (psub_any x y s0 s2 A0 A2 n0 c0 n2 c2 x1 HXw1.out HYw1.out (Nat.le_trans (plim HXw1.out HL.out.1) (by decide)) (Nat.le_trans (plim HYw1.out HL.out.2.1) (by decide)) HL.out.1 HL.out.2.1).mono ?_
 rw [(in_lim HL.out.2.2).1, (in_lim HL.out.2.2).2]
 rintro e w7 ⟨s11, A11, n11, c11, rfl, hr11, hb⟩
 have HB7 := hJ hb
 have HR7hr11 := hJ hr11
 clear hb hr11
 have HQ1x0w2 := hJ (BX.new HQ1x0.out HB7.out)
 have fz8_0 := HQ1x0w2.out.frozen 0
 have fc8_0 := HQ1x0w2.out.cell 0 rfl
 have fz8_1 := HQ1x0w2.out.frozen 1
 have fc8_1 := HQ1x0w2.out.cell 1 rfl
 obtain ⟨x8, hx8⟩ := nmz (World.setCell (World.setCell w7 ⟨w.heap.size, 0, none⟩ (.bool s11)) ⟨w.heap.size, 1, none⟩ (.slice A11 n11 c11))
 have HE8 := hJ (show sto w7 w.heap.size 0 [.bool s11, .slice A11 n11 c11] = x8 from hx8)
 have HQ8s := hJ (show BX 48 x8 w.heap.size #[.bool s11, .slice A11 n11 c11] by rw [← HE8.out]; exact BX.put HQ1x0w2.out _ _)
 have HC0_3 := hJ (show Below w.heap.size w x8 by rw [← HE8.out]; exact below_sto (bt HB1.out HB7.out) HG1x0.out _ _)
 have HR7hr11w3 := hJ (show PI x8 s11 A11 n11 c11 (x - y) by rw [← HE8.out]; exact PIo.sto HR7hr11.out HQ1x0w2.out rfl _ _)
 go_wp2
 clear fz8_0 fc8_0 fz8_1 fc8_1 hx8
 exact bodyPost_ret (results_cell1 rfl _ _ _ _ _ _ _ rfl HQ8s.out Try.underlying48 rfl W_size) rfl ⟨s11, A11, n11, c11, rfl, HR7hr11w3.out, HC0_3.out⟩
set_option maxRecDepth 100000 in
set_option maxHeartbeats 1600000 in
theorem da6_any (x y : Int) (s0 : Bool) (A0 : Option Addr) (n0 c0 : Nat) (s1 : Bool) (A1 : Option Addr) (n1 c1 : Nat) (s2 : Bool) (A2 : Option Addr) (n2 c2 : Nat) (s3 : Bool) (A3 : Option Addr) (n3 c3 : Nat) (s4 : Bool) (A4 : Option Addr) (n4 c4 : Nat) (s5 : Bool) (A5 : Option Addr) (n5 c5 : Nat) (s6 : Bool) (A6 : Option Addr) (n6 c6 : Nat) (gf gb : Nat) (w : World) (hf : BX 51 w gf #[.func (.func 25) #[] #[]]) (hb0 : BX 58 w gb #[.bool s0, .slice A0 n0 c0, .bool s1, .slice A1 n1 c1, .bool s2, .slice A2 n2 c2, .bool s3, .slice A3 n3 c3, .bool s4, .slice A4 n4 c4, .bool s5, .slice A5 n5 c5, .bool s6, .slice A6 n6 c6]) (hx : PI w s3 A3 n3 c3 x) (hy : PI w s4 A4 n4 c4 y) (lx : x.natAbs < lim) (ly : y.natAbs < lim) (lz : (x * y).natAbs < lim) :
  Calls Try.prog 40 #[.pointer (some ⟨gf, 0, none⟩), .pointer (some ⟨gb, 0, none⟩)] w (RetPE (x * y) 0 w) := by
 have HF := hJ hf
 have HB := hJ hb0
 have HX := hJ hx
 have HY := hJ hy
 have HL := hJ (And.intro lx (And.intro ly lz))
 clear hf hb0 hx hy lx ly lz
 obtain ⟨x1, hx1⟩ := nmz (w.alloc (.cells #[.bool false, .slice none 0 0] 48))
 have HB1 := hJ (show Below w.heap.size w x1 by rw [← hx1]; exact ((Below.refl _ _).alloc (Nat.le_refl _) _))
 have HQ1x0 := hJ (show BX 48 x1 w.heap.size #[.bool false, .slice none 0 0] by rw [← hx1]; exact (BX.at rfl))
 have HG1x0 := hJ (show w.heap.size ≤ w.heap.size by omega)
 have HL1x0 := hJ (show w.heap.size < x1.heap.size from HQ1x0.out.lt)
 have HFw1 := hJ (BX.new HF.out HB1.out)
 have cl2 := HFw1.out.cell 0 rfl
 have HBw1 := hJ (BX.new HB.out HB1.out)
 obtain ⟨cl3, cl4⟩ := HBw1.out.c2 6 7 rfl rfl
 obtain ⟨cl5, cl6⟩ := HBw1.out.c2 8 9 rfl rfl
 have HXw1 := hJ (PIo.new HX.out HB1.out)
 have HYw1 := hJ (PIo.new HY.out HB1.out)
 go_enter Try.func40, Try.ntmps40
 go_wp2_with fail
 clear hx1 cl2 cl3 cl4 cl5 cl6
 refine (pmul_any x y s3 s4 A3 A4 n3 c3 n4 c4 x1 HXw1.out HYw1.out (Nat.le_trans (plim HXw1.out HL.out.1) (by decide)) (Nat.le_trans (plim HYw1.out HL.out.2.1) (by decide))).mono ?_
 rw [(in_lim HL.out.2.2).1, (in_lim HL.out.2.2).2]
 rintro e w7 ⟨s11, A11, n11, c11, rfl, hr11, hb⟩
 have HB7 := hJ hb
 have HR7hr11 := hJ hr11
 clear hb hr11
 have HQ1x0w2 := hJ (BX.new HQ1x0.out HB7.out)
 have fz8_0 := HQ1x0w2.out.frozen 0
 have fc8_0 := HQ1x0w2.out.cell 0 rfl
 have fz8_1 := HQ1x0w2.out.frozen 1
 have fc8_1 := HQ1x0w2.out.cell 1 rfl
 obtain ⟨x8, hx8⟩ := nmz (World.setCell (World.setCell w7 ⟨w.heap.size, 0, none⟩ (.bool s11)) ⟨w.heap.size, 1, none⟩ (.slice A11 n11 c11))
 have HE8 := hJ (show sto w7 w.heap.size 0 [.bool s11, .slice A11 n11 c11] = x8 from hx8)
 have HQ8s := hJ (show BX 48 x8 w.heap.size #[.bool s11, .slice A11 n11 c11] by rw [← HE8.out]; exact BX.put HQ1x0w2.out _ _)
 have HC0_3 := hJ (show Below w.heap.size w x8 by rw [← HE8.out]; exact below_sto (bt HB1.out HB7.out) HG1x0.out _ _)
 have HR7hr11w3 := hJ (show PI x8 s11 A11 n11 c11 (x * y) by rw [← HE8.out]; exact PIo.sto HR7hr11.out HQ1x0w2.out rfl _ _)
 go_wp2
 clear fz8_0 fc8_0 fz8_1 fc8_1 hx8
 exact bodyPost_ret (results_cell1 rfl _ _ _ _ _ _ _ rfl HQ8s.out Try.underlying48 rfl W_size) rfl ⟨s11, A11, n11, c11, rfl, HR7hr11w3.out, HC0_3.out⟩
set_option maxRecDepth 100000 in
set_option maxHeartbeats 1600000 in
theorem da7_any (x y : Int) (s0 : Bool) (A0 : Option Addr) (n0 c0 : Nat) (s1 : Bool) (A1 : Option Addr) (n1 c1 : Nat) (s2 : Bool) (A2 : Option Addr) (n2 c2 : Nat) (s3 : Bool) (A3 : Option Addr) (n3 c3 : Nat) (s4 : Bool) (A4 : Option Addr) (n4 c4 : Nat) (s5 : Bool) (A5 : Option Addr) (n5 c5 : Nat) (s6 : Bool) (A6 : Option Addr) (n6 c6 : Nat) (gf gb : Nat) (w : World) (hf : BX 51 w gf #[.func (.func 24) #[] #[]]) (hb0 : BX 58 w gb #[.bool s0, .slice A0 n0 c0, .bool s1, .slice A1 n1 c1, .bool s2, .slice A2 n2 c2, .bool s3, .slice A3 n3 c3, .bool s4, .slice A4 n4 c4, .bool s5, .slice A5 n5 c5, .bool s6, .slice A6 n6 c6]) (hx : PI w s2 A2 n2 c2 x) (hy : PI w s5 A5 n5 c5 y) (lx : x.natAbs < lim) (ly : y.natAbs < lim) (lz : (x - y).natAbs < lim) :
  Calls Try.prog 41 #[.pointer (some ⟨gf, 0, none⟩), .pointer (some ⟨gb, 0, none⟩)] w (RetPE (x - y) 0 w) := by
 have HF := hJ hf
 have HB := hJ hb0
 have HX := hJ hx
 have HY := hJ hy
 have HL := hJ (And.intro lx (And.intro ly lz))
 clear hf hb0 hx hy lx ly lz
 obtain ⟨x1, hx1⟩ := nmz (w.alloc (.cells #[.bool false, .slice none 0 0] 48))
 have HB1 := hJ (show Below w.heap.size w x1 by rw [← hx1]; exact ((Below.refl _ _).alloc (Nat.le_refl _) _))
 have HQ1x0 := hJ (show BX 48 x1 w.heap.size #[.bool false, .slice none 0 0] by rw [← hx1]; exact (BX.at rfl))
 have HG1x0 := hJ (show w.heap.size ≤ w.heap.size by omega)
 have HL1x0 := hJ (show w.heap.size < x1.heap.size from HQ1x0.out.lt)
 have HFw1 := hJ (BX.new HF.out HB1.out)
 have cl2 := HFw1.out.cell 0 rfl
 have HBw1 := hJ (BX.new HB.out HB1.out)
 obtain ⟨cl3, cl4⟩ := HBw1.out.c2 4 5 rfl rfl
 obtain ⟨cl5, cl6⟩ := HBw1.out.c2 10 11 rfl rfl
 have HXw1 := hJ (PIo.new HX.out HB1.out)
 have HYw1 := hJ (PIo.new HY.out HB1.out)
 go_enter Try.func41, Try.ntmps41
 go_wp2_with fail
 clear hx1 cl2 cl3 cl4 cl5 cl6
 refine (psub_any x y s2 s5 A2 A5 n2 c2 n5 c5 x1 HXw1.out HYw1.out (Nat.le_trans (plim HXw1.out HL.out.1) (by decide)) (Nat.le_trans (plim HYw1.out HL.out.2.1) (by decide)) HL.out.1 HL.out.2.1).mono ?_
 rw [(in_lim HL.out.2.2).1, (in_lim HL.out.2.2).2]
 rintro e w7 ⟨s11, A11, n11, c11, rfl, hr11, hb⟩
 have HB7 := hJ hb
 have HR7hr11 := hJ hr11
 clear hb hr11
 have HQ1x0w2 := hJ (BX.new HQ1x0.out HB7.out)
 have fz8_0 := HQ1x0w2.out.frozen 0
 have fc8_0 := HQ1x0w2.out.cell 0 rfl
 have fz8_1 := HQ1x0w2.out.frozen 1
 have fc8_1 := HQ1x0w2.out.cell 1 rfl
 obtain ⟨x8, hx8⟩ := nmz (World.setCell (World.setCell w7 ⟨w.heap.size, 0, none⟩ (.bool s11)) ⟨w.heap.size, 1, none⟩ (.slice A11 n11 c11))
 have HE8 := hJ (show sto w7 w.heap.size 0 [.bool s11, .slice A11 n11 c11] = x8 from hx8)
 have HQ8s := hJ (show BX 48 x8 w.heap.size #[.bool s11, .slice A11 n11 c11] by rw [← HE8.out]; exact BX.put HQ1x0w2.out _ _)
 have HC0_3 := hJ (show Below w.heap.size w x8 by rw [← HE8.out]; exact below_sto (bt HB1.out HB7.out) HG1x0.out _ _)
 have HR7hr11w3 := hJ (show PI x8 s11 A11 n11 c11 (x - y) by rw [← HE8.out]; exact PIo.sto HR7hr11.out HQ1x0w2.out rfl _ _)
 go_wp2
 clear fz8_0 fc8_0 fz8_1 fc8_1 hx8
 exact bodyPost_ret (results_cell1 rfl _ _ _ _ _ _ _ rfl HQ8s.out Try.underlying48 rfl W_size) rfl ⟨s11, A11, n11, c11, rfl, HR7hr11w3.out, HC0_3.out⟩
end Go.Proofs.Ytdamadkhbeonaaa
