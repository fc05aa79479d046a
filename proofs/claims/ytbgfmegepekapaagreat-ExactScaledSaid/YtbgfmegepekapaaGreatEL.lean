/- Contracts: the steps of doubledArea over integers. Conditions: as each statement has them. -/
import Derived.Test.YtbgfmegepekapaaGreatFD
import Derived.Test.YtbgfmegepekapaaGreatED
import Derived.Laws.EntriesVeiled
namespace Go.Proofs.YtbgfmegepekapaaGreat
set_option maxRecDepth 100000
set_option maxHeartbeats 12800000
open Go.RowKit
attribute [local go_sem ↓] Go.wp_at_zero Go.wp_at_succ
set_option linter.unusedVariables false
set_option linter.unusedSimpArgs false
theorem fx7_0 {v0 v1 v2 v3 v4 v5 v6:Value} (wx:World):(Instr.index 172 (.agg #[v0,v1,v2,v3,v4,v5,v6]) (.int .i64 0)).run Tryz.prog wx=.ok v0 wx:=by
 first
  | kernel_rfl
  | simp [Instr.index,run_underlying Tryz.underlying172,asIntOf,go_sem]
theorem fx7_1 {v0 v1 v2 v3 v4 v5 v6:Value} (wx:World):(Instr.index 172 (.agg #[v0,v1,v2,v3,v4,v5,v6]) (.int .i64 1)).run Tryz.prog wx=.ok v1 wx:=by
 first
  | kernel_rfl
  | simp [Instr.index,run_underlying Tryz.underlying172,asIntOf,go_sem]
theorem fx7_2 {v0 v1 v2 v3 v4 v5 v6:Value} (wx:World):(Instr.index 172 (.agg #[v0,v1,v2,v3,v4,v5,v6]) (.int .i64 2)).run Tryz.prog wx=.ok v2 wx:=by
 first
  | kernel_rfl
  | simp [Instr.index,run_underlying Tryz.underlying172,asIntOf,go_sem]
theorem fx7_3 {v0 v1 v2 v3 v4 v5 v6:Value} (wx:World):(Instr.index 172 (.agg #[v0,v1,v2,v3,v4,v5,v6]) (.int .i64 3)).run Tryz.prog wx=.ok v3 wx:=by
 first
  | kernel_rfl
  | simp [Instr.index,run_underlying Tryz.underlying172,asIntOf,go_sem]
theorem fx7_4 {v0 v1 v2 v3 v4 v5 v6:Value} (wx:World):(Instr.index 172 (.agg #[v0,v1,v2,v3,v4,v5,v6]) (.int .i64 4)).run Tryz.prog wx=.ok v4 wx:=by
 first
  | kernel_rfl
  | simp [Instr.index,run_underlying Tryz.underlying172,asIntOf,go_sem]
theorem fx7_5 {v0 v1 v2 v3 v4 v5 v6:Value} (wx:World):(Instr.index 172 (.agg #[v0,v1,v2,v3,v4,v5,v6]) (.int .i64 5)).run Tryz.prog wx=.ok v5 wx:=by
 first
  | kernel_rfl
  | simp [Instr.index,run_underlying Tryz.underlying172,asIntOf,go_sem]
theorem fx7_6 {v0 v1 v2 v3 v4 v5 v6:Value} (wx:World):(Instr.index 172 (.agg #[v0,v1,v2,v3,v4,v5,v6]) (.int .i64 6)).run Tryz.prog wx=.ok v6 wx:=by
 first
  | kernel_rfl
  | simp [Instr.index,run_underlying Tryz.underlying172,asIntOf,go_sem]
theorem da1_any (x y:Int) (s0:Bool) (A0:Option Addr) (n0 c0:Nat) (s1:Bool) (A1:Option Addr) (n1 c1:Nat) (s2:Bool) (A2:Option Addr) (n2 c2:Nat) (s3:Bool) (A3:Option Addr) (n3 c3:Nat) (gf gb ga:Nat) (w:World) (hf:BX 59 w gf #[.func (.func 87) #[] #[]]) (hb0:BX 135 w gb #[.bool s0,.slice A0 n0 c0,.bool s1,.slice A1 n1 c1]) (ha0:BX 135 w ga #[.bool s2,.slice A2 n2 c2,.bool s3,.slice A3 n3 c3]) (hx:PI w s0 A0 n0 c0 x) (hy:PI w s2 A2 n2 c2 y) (lx:x.natAbs < lim) (ly:y.natAbs < lim) (lz:(x - y).natAbs < lim) :
  Calls Tryz.prog 126 #[.pointer (some ⟨gf,0,none⟩),.pointer (some ⟨gb,0,none⟩),.pointer (some ⟨ga,0,none⟩)] w (RetPE (x - y) 0 w):=by
 have HF:=hJ hf
 have HB:=hJ hb0
 have HA:=hJ ha0
 have HX:=hJ hx
 have HY:=hJ hy
 have HL:=hJ (And.intro lx (And.intro ly lz))
 clear hf hb0 hx hy lx ly lz ha0
 obtain ⟨x1,aC⟩:=nmz (w.alloc (.cells #[.bool false,.slice none 0 0] 25))
 have aA:=hJ (show Below w.heap.size w x1 by rw [←aC]; exact ((Below.refl _ _).alloc (Nat.le_refl _) _))
 have aJ:=hJ (show BX 25 x1 w.heap.size #[.bool false,.slice none 0 0] by rw [←aC]; exact (BX.at rfl))
 have aK:=hJ (show w.heap.size≤w.heap.size by omega)
 have aL:=hJ (BX.new HF.out aA.out)
 have aM:=aL.out.cell 0 rfl
 have aN:=hJ (BX.new HB.out aA.out)
 obtain ⟨aO,aR⟩:=aN.out.c2 0 1 rfl rfl
 have aS:=hJ (BX.new HA.out aA.out)
 obtain ⟨aT,aU⟩:=aS.out.c2 0 1 rfl rfl
 have aF:=hJ (PIo.new HX.out aA.out)
 have aG:=hJ (PIo.new HY.out aA.out)
 go_enter Tryz.func126,Tryz.ntmps126
 go_wp2_with fail
 clear aC aM aO aR aT aU
 refine (psub_any x y s0 s2 A0 A2 n0 c0 n2 c2 x1 aF.out aG.out (Nat.le_trans (plim aF.out HL.out.1) (by decide)) (Nat.le_trans (plim aG.out HL.out.2.1) (by decide)) HL.out.1 HL.out.2.1).mono ?_
 rw [(in_lim HL.out.2.2).1,(in_lim HL.out.2.2).2]
 rintro e w7 ⟨s11,A11,n11,c11,rfl,hr11,hb⟩
 have aH:=hJ hb
 have aV:=hJ hr11
 clear hb hr11
 have aB:=hJ (BX.new aJ.out aH.out)
 have aW:=aB.out.frozen 0
 have aX:=aB.out.cell 0 rfl
 have aY:=aB.out.frozen 1
 have aZ:=aB.out.cell 1 rfl
 obtain ⟨x8,aI⟩:=nmz (World.setCell (World.setCell w7 ⟨w.heap.size,0,none⟩ (.bool s11)) ⟨w.heap.size,1,none⟩ (.slice A11 n11 c11))
 have aD:=hJ (show sto w7 w.heap.size 0 [.bool s11,.slice A11 n11 c11]=x8 from aI)
 have bA:=hJ (show BX 25 x8 w.heap.size #[.bool s11,.slice A11 n11 c11] by rw [←aD.out]; exact BX.put aB.out _ _)
 have bB:=hJ (show Below w.heap.size w x8 by rw [←aD.out]; exact below_sto (bt aA.out aH.out) aK.out _ _)
 have bC:=hJ (show PI x8 s11 A11 n11 c11 (x - y) by rw [←aD.out]; exact PIo.sto aV.out aB.out rfl _ _)
 go_wp2
 clear aW aX aY aZ aI
 exact bodyPost_ret (results_cell1 rfl _ _ _ _ _ _ _ rfl bA.out Tryz.underlying25 rfl W_size) rfl ⟨s11,A11,n11,c11,rfl,bC.out,bB.out⟩
theorem da2_any (x y:Int) (s0:Bool) (A0:Option Addr) (n0 c0:Nat) (s1:Bool) (A1:Option Addr) (n1 c1:Nat) (s2:Bool) (A2:Option Addr) (n2 c2:Nat) (s3:Bool) (A3:Option Addr) (n3 c3:Nat) (gf gb ga:Nat) (w:World) (hf:BX 59 w gf #[.func (.func 87) #[] #[]]) (hb0:BX 135 w gb #[.bool s0,.slice A0 n0 c0,.bool s1,.slice A1 n1 c1]) (ha0:BX 135 w ga #[.bool s2,.slice A2 n2 c2,.bool s3,.slice A3 n3 c3]) (hx:PI w s1 A1 n1 c1 x) (hy:PI w s3 A3 n3 c3 y) (lx:x.natAbs < lim) (ly:y.natAbs < lim) (lz:(x - y).natAbs < lim) :
  Calls Tryz.prog 127 #[.pointer (some ⟨gf,0,none⟩),.pointer (some ⟨gb,0,none⟩),.pointer (some ⟨ga,0,none⟩)] w (RetPE (x - y) 0 w):=by
 have HF:=hJ hf
 have HB:=hJ hb0
 have HA:=hJ ha0
 have HX:=hJ hx
 have HY:=hJ hy
 have HL:=hJ (And.intro lx (And.intro ly lz))
 clear hf hb0 hx hy lx ly lz ha0
 obtain ⟨x1,aC⟩:=nmz (w.alloc (.cells #[.bool false,.slice none 0 0] 25))
 have aA:=hJ (show Below w.heap.size w x1 by rw [←aC]; exact ((Below.refl _ _).alloc (Nat.le_refl _) _))
 have aJ:=hJ (show BX 25 x1 w.heap.size #[.bool false,.slice none 0 0] by rw [←aC]; exact (BX.at rfl))
 have aK:=hJ (show w.heap.size≤w.heap.size by omega)
 have aL:=hJ (BX.new HF.out aA.out)
 have aM:=aL.out.cell 0 rfl
 have aN:=hJ (BX.new HB.out aA.out)
 obtain ⟨aO,aR⟩:=aN.out.c2 2 3 rfl rfl
 have aS:=hJ (BX.new HA.out aA.out)
 obtain ⟨aT,aU⟩:=aS.out.c2 2 3 rfl rfl
 have aF:=hJ (PIo.new HX.out aA.out)
 have aG:=hJ (PIo.new HY.out aA.out)
 go_enter Tryz.func127,Tryz.ntmps127
 go_wp2_with fail
 clear aC aM aO aR aT aU
 refine (psub_any x y s1 s3 A1 A3 n1 c1 n3 c3 x1 aF.out aG.out (Nat.le_trans (plim aF.out HL.out.1) (by decide)) (Nat.le_trans (plim aG.out HL.out.2.1) (by decide)) HL.out.1 HL.out.2.1).mono ?_
 rw [(in_lim HL.out.2.2).1,(in_lim HL.out.2.2).2]
 rintro e w7 ⟨s11,A11,n11,c11,rfl,hr11,hb⟩
 have aH:=hJ hb
 have aV:=hJ hr11
 clear hb hr11
 have aB:=hJ (BX.new aJ.out aH.out)
 have aW:=aB.out.frozen 0
 have aX:=aB.out.cell 0 rfl
 have aY:=aB.out.frozen 1
 have aZ:=aB.out.cell 1 rfl
 obtain ⟨x8,aI⟩:=nmz (World.setCell (World.setCell w7 ⟨w.heap.size,0,none⟩ (.bool s11)) ⟨w.heap.size,1,none⟩ (.slice A11 n11 c11))
 have aD:=hJ (show sto w7 w.heap.size 0 [.bool s11,.slice A11 n11 c11]=x8 from aI)
 have bA:=hJ (show BX 25 x8 w.heap.size #[.bool s11,.slice A11 n11 c11] by rw [←aD.out]; exact BX.put aB.out _ _)
 have bB:=hJ (show Below w.heap.size w x8 by rw [←aD.out]; exact below_sto (bt aA.out aH.out) aK.out _ _)
 have bC:=hJ (show PI x8 s11 A11 n11 c11 (x - y) by rw [←aD.out]; exact PIo.sto aV.out aB.out rfl _ _)
 go_wp2
 clear aW aX aY aZ aI
 exact bodyPost_ret (results_cell1 rfl _ _ _ _ _ _ _ rfl bA.out Tryz.underlying25 rfl W_size) rfl ⟨s11,A11,n11,c11,rfl,bC.out,bB.out⟩
theorem da3_any (x y:Int) (s0:Bool) (A0:Option Addr) (n0 c0:Nat) (s1:Bool) (A1:Option Addr) (n1 c1:Nat) (s2:Bool) (A2:Option Addr) (n2 c2:Nat) (s3:Bool) (A3:Option Addr) (n3 c3:Nat) (s4:Bool) (A4:Option Addr) (n4 c4:Nat) (s5:Bool) (A5:Option Addr) (n5 c5:Nat) (s6:Bool) (A6:Option Addr) (n6 c6:Nat) (gf gb:Nat) (w:World) (hf:BX 59 w gf #[.func (.func 21) #[] #[]]) (hb0:BX 170 w gb #[.bool s0,.slice A0 n0 c0,.bool s1,.slice A1 n1 c1,.bool s2,.slice A2 n2 c2,.bool s3,.slice A3 n3 c3,.bool s4,.slice A4 n4 c4,.bool s5,.slice A5 n5 c5,.bool s6,.slice A6 n6 c6]) (hx:PI w s0 A0 n0 c0 x) (hy:PI w s1 A1 n1 c1 y) (lx:x.natAbs < lim) (ly:y.natAbs < lim) (lz:(x*y).natAbs < lim) :
  Calls Tryz.prog 128 #[.pointer (some ⟨gf,0,none⟩),.pointer (some ⟨gb,0,none⟩)] w (RetPE (x*y) 0 w):=by
 have HF:=hJ hf
 have HB:=hJ hb0
 have HX:=hJ hx
 have HY:=hJ hy
 have HL:=hJ (And.intro lx (And.intro ly lz))
 clear hf hb0 hx hy lx ly lz
 obtain ⟨x1,aC⟩:=nmz (w.alloc (.cells #[.bool false,.slice none 0 0] 25))
 have aB:=hJ (show Below w.heap.size w x1 by rw [←aC]; exact ((Below.refl _ _).alloc (Nat.le_refl _) _))
 have aK:=hJ (show BX 25 x1 w.heap.size #[.bool false,.slice none 0 0] by rw [←aC]; exact (BX.at rfl))
 have aL:=hJ (show w.heap.size≤w.heap.size by omega)
 have aM:=hJ (BX.new HF.out aB.out)
 have aN:=aM.out.cell 0 rfl
 have aF:=hJ (BX.new HB.out aB.out)
 obtain ⟨aO,aR⟩:=aF.out.c2 0 1 rfl rfl
 obtain ⟨aS,aT⟩:=aF.out.c2 2 3 rfl rfl
 have aG:=hJ (PIo.new HX.out aB.out)
 have aH:=hJ (PIo.new HY.out aB.out)
 go_enter Tryz.func128,Tryz.ntmps128
 go_wp2_with fail
 clear aC aN aO aR aS aT
 refine (pmul_any x y s0 s1 A0 A1 n0 c0 n1 c1 x1 aG.out aH.out (Nat.le_trans (plim aG.out HL.out.1) (by decide)) (Nat.le_trans (plim aH.out HL.out.2.1) (by decide))).mono ?_
 rw [(in_lim HL.out.2.2).1,(in_lim HL.out.2.2).2]
 rintro e w7 ⟨s11,A11,n11,c11,rfl,hr11,hb⟩
 have aI:=hJ hb
 have aU:=hJ hr11
 clear hb hr11
 have aA:=hJ (BX.new aK.out aI.out)
 have aV:=aA.out.frozen 0
 have aW:=aA.out.cell 0 rfl
 have aX:=aA.out.frozen 1
 have aY:=aA.out.cell 1 rfl
 obtain ⟨x8,aJ⟩:=nmz (World.setCell (World.setCell w7 ⟨w.heap.size,0,none⟩ (.bool s11)) ⟨w.heap.size,1,none⟩ (.slice A11 n11 c11))
 have aD:=hJ (show sto w7 w.heap.size 0 [.bool s11,.slice A11 n11 c11]=x8 from aJ)
 have aZ:=hJ (show BX 25 x8 w.heap.size #[.bool s11,.slice A11 n11 c11] by rw [←aD.out]; exact BX.put aA.out _ _)
 have bA:=hJ (show Below w.heap.size w x8 by rw [←aD.out]; exact below_sto (bt aB.out aI.out) aL.out _ _)
 have bB:=hJ (show PI x8 s11 A11 n11 c11 (x*y) by rw [←aD.out]; exact PIo.sto aU.out aA.out rfl _ _)
 go_wp2
 clear aV aW aX aY aJ
 exact bodyPost_ret (results_cell1 rfl _ _ _ _ _ _ _ rfl aZ.out Tryz.underlying25 rfl W_size) rfl ⟨s11,A11,n11,c11,rfl,bB.out,bA.out⟩
theorem da4_any (x y:Int) (s0:Bool) (A0:Option Addr) (n0 c0:Nat) (s1:Bool) (A1:Option Addr) (n1 c1:Nat) (s2:Bool) (A2:Option Addr) (n2 c2:Nat) (s3:Bool) (A3:Option Addr) (n3 c3:Nat) (gf gb ga:Nat) (w:World) (hf:BX 59 w gf #[.func (.func 87) #[] #[]]) (hb0:BX 135 w gb #[.bool s0,.slice A0 n0 c0,.bool s1,.slice A1 n1 c1]) (ha0:BX 135 w ga #[.bool s2,.slice A2 n2 c2,.bool s3,.slice A3 n3 c3]) (hx:PI w s1 A1 n1 c1 x) (hy:PI w s3 A3 n3 c3 y) (lx:x.natAbs < lim) (ly:y.natAbs < lim) (lz:(x - y).natAbs < lim) :
  Calls Tryz.prog 129 #[.pointer (some ⟨gf,0,none⟩),.pointer (some ⟨gb,0,none⟩),.pointer (some ⟨ga,0,none⟩)] w (RetPE (x - y) 0 w):=by
 have HF:=hJ hf
 have HB:=hJ hb0
 have HA:=hJ ha0
 have HX:=hJ hx
 have HY:=hJ hy
 have HL:=hJ (And.intro lx (And.intro ly lz))
 clear hf hb0 hx hy lx ly lz ha0
 obtain ⟨x1,aC⟩:=nmz (w.alloc (.cells #[.bool false,.slice none 0 0] 25))
 have aA:=hJ (show Below w.heap.size w x1 by rw [←aC]; exact ((Below.refl _ _).alloc (Nat.le_refl _) _))
 have aJ:=hJ (show BX 25 x1 w.heap.size #[.bool false,.slice none 0 0] by rw [←aC]; exact (BX.at rfl))
 have aK:=hJ (show w.heap.size≤w.heap.size by omega)
 have aL:=hJ (BX.new HF.out aA.out)
 have aM:=aL.out.cell 0 rfl
 have aN:=hJ (BX.new HB.out aA.out)
 obtain ⟨aO,aR⟩:=aN.out.c2 2 3 rfl rfl
 have aS:=hJ (BX.new HA.out aA.out)
 obtain ⟨aT,aU⟩:=aS.out.c2 2 3 rfl rfl
 have aF:=hJ (PIo.new HX.out aA.out)
 have aG:=hJ (PIo.new HY.out aA.out)
 go_enter Tryz.func129,Tryz.ntmps129
 go_wp2_with fail
 clear aC aM aO aR aT aU
 refine (psub_any x y s1 s3 A1 A3 n1 c1 n3 c3 x1 aF.out aG.out (Nat.le_trans (plim aF.out HL.out.1) (by decide)) (Nat.le_trans (plim aG.out HL.out.2.1) (by decide)) HL.out.1 HL.out.2.1).mono ?_
 rw [(in_lim HL.out.2.2).1,(in_lim HL.out.2.2).2]
 rintro e w7 ⟨s11,A11,n11,c11,rfl,hr11,hb⟩
 have aH:=hJ hb
 have aV:=hJ hr11
 clear hb hr11
 have aB:=hJ (BX.new aJ.out aH.out)
 have aW:=aB.out.frozen 0
 have aX:=aB.out.cell 0 rfl
 have aY:=aB.out.frozen 1
 have aZ:=aB.out.cell 1 rfl
 obtain ⟨x8,aI⟩:=nmz (World.setCell (World.setCell w7 ⟨w.heap.size,0,none⟩ (.bool s11)) ⟨w.heap.size,1,none⟩ (.slice A11 n11 c11))
 have aD:=hJ (show sto w7 w.heap.size 0 [.bool s11,.slice A11 n11 c11]=x8 from aI)
 have bA:=hJ (show BX 25 x8 w.heap.size #[.bool s11,.slice A11 n11 c11] by rw [←aD.out]; exact BX.put aB.out _ _)
 have bB:=hJ (show Below w.heap.size w x8 by rw [←aD.out]; exact below_sto (bt aA.out aH.out) aK.out _ _)
 have bC:=hJ (show PI x8 s11 A11 n11 c11 (x - y) by rw [←aD.out]; exact PIo.sto aV.out aB.out rfl _ _)
 go_wp2
 clear aW aX aY aZ aI
 exact bodyPost_ret (results_cell1 rfl _ _ _ _ _ _ _ rfl bA.out Tryz.underlying25 rfl W_size) rfl ⟨s11,A11,n11,c11,rfl,bC.out,bB.out⟩
theorem da5_any (x y:Int) (s0:Bool) (A0:Option Addr) (n0 c0:Nat) (s1:Bool) (A1:Option Addr) (n1 c1:Nat) (s2:Bool) (A2:Option Addr) (n2 c2:Nat) (s3:Bool) (A3:Option Addr) (n3 c3:Nat) (gf gb ga:Nat) (w:World) (hf:BX 59 w gf #[.func (.func 87) #[] #[]]) (hb0:BX 135 w gb #[.bool s0,.slice A0 n0 c0,.bool s1,.slice A1 n1 c1]) (ha0:BX 135 w ga #[.bool s2,.slice A2 n2 c2,.bool s3,.slice A3 n3 c3]) (hx:PI w s0 A0 n0 c0 x) (hy:PI w s2 A2 n2 c2 y) (lx:x.natAbs < lim) (ly:y.natAbs < lim) (lz:(x - y).natAbs < lim) :
  Calls Tryz.prog 130 #[.pointer (some ⟨gf,0,none⟩),.pointer (some ⟨gb,0,none⟩),.pointer (some ⟨ga,0,none⟩)] w (RetPE (x - y) 0 w):=by
 have HF:=hJ hf
 have HB:=hJ hb0
 have HA:=hJ ha0
 have HX:=hJ hx
 have HY:=hJ hy
 have HL:=hJ (And.intro lx (And.intro ly lz))
 clear hf hb0 hx hy lx ly lz ha0
 obtain ⟨x1,aC⟩:=nmz (w.alloc (.cells #[.bool false,.slice none 0 0] 25))
 have aA:=hJ (show Below w.heap.size w x1 by rw [←aC]; exact ((Below.refl _ _).alloc (Nat.le_refl _) _))
 have aJ:=hJ (show BX 25 x1 w.heap.size #[.bool false,.slice none 0 0] by rw [←aC]; exact (BX.at rfl))
 have aK:=hJ (show w.heap.size≤w.heap.size by omega)
 have aL:=hJ (BX.new HF.out aA.out)
 have aM:=aL.out.cell 0 rfl
 have aN:=hJ (BX.new HB.out aA.out)
 obtain ⟨aO,aR⟩:=aN.out.c2 0 1 rfl rfl
 have aS:=hJ (BX.new HA.out aA.out)
 obtain ⟨aT,aU⟩:=aS.out.c2 0 1 rfl rfl
 have aF:=hJ (PIo.new HX.out aA.out)
 have aG:=hJ (PIo.new HY.out aA.out)
 go_enter Tryz.func130,Tryz.ntmps130
 go_wp2_with fail
 clear aC aM aO aR aT aU
 refine (psub_any x y s0 s2 A0 A2 n0 c0 n2 c2 x1 aF.out aG.out (Nat.le_trans (plim aF.out HL.out.1) (by decide)) (Nat.le_trans (plim aG.out HL.out.2.1) (by decide)) HL.out.1 HL.out.2.1).mono ?_
 rw [(in_lim HL.out.2.2).1,(in_lim HL.out.2.2).2]
 rintro e w7 ⟨s11,A11,n11,c11,rfl,hr11,hb⟩
 have aH:=hJ hb
 have aV:=hJ hr11
 clear hb hr11
 have aB:=hJ (BX.new aJ.out aH.out)
 have aW:=aB.out.frozen 0
 have aX:=aB.out.cell 0 rfl
 have aY:=aB.out.frozen 1
 have aZ:=aB.out.cell 1 rfl
 obtain ⟨x8,aI⟩:=nmz (World.setCell (World.setCell w7 ⟨w.heap.size,0,none⟩ (.bool s11)) ⟨w.heap.size,1,none⟩ (.slice A11 n11 c11))
 have aD:=hJ (show sto w7 w.heap.size 0 [.bool s11,.slice A11 n11 c11]=x8 from aI)
 have bA:=hJ (show BX 25 x8 w.heap.size #[.bool s11,.slice A11 n11 c11] by rw [←aD.out]; exact BX.put aB.out _ _)
 have bB:=hJ (show Below w.heap.size w x8 by rw [←aD.out]; exact below_sto (bt aA.out aH.out) aK.out _ _)
 have bC:=hJ (show PI x8 s11 A11 n11 c11 (x - y) by rw [←aD.out]; exact PIo.sto aV.out aB.out rfl _ _)
 go_wp2
 clear aW aX aY aZ aI
 exact bodyPost_ret (results_cell1 rfl _ _ _ _ _ _ _ rfl bA.out Tryz.underlying25 rfl W_size) rfl ⟨s11,A11,n11,c11,rfl,bC.out,bB.out⟩
theorem da6_any (x y:Int) (s0:Bool) (A0:Option Addr) (n0 c0:Nat) (s1:Bool) (A1:Option Addr) (n1 c1:Nat) (s2:Bool) (A2:Option Addr) (n2 c2:Nat) (s3:Bool) (A3:Option Addr) (n3 c3:Nat) (s4:Bool) (A4:Option Addr) (n4 c4:Nat) (s5:Bool) (A5:Option Addr) (n5 c5:Nat) (s6:Bool) (A6:Option Addr) (n6 c6:Nat) (gf gb:Nat) (w:World) (hf:BX 59 w gf #[.func (.func 21) #[] #[]]) (hb0:BX 170 w gb #[.bool s0,.slice A0 n0 c0,.bool s1,.slice A1 n1 c1,.bool s2,.slice A2 n2 c2,.bool s3,.slice A3 n3 c3,.bool s4,.slice A4 n4 c4,.bool s5,.slice A5 n5 c5,.bool s6,.slice A6 n6 c6]) (hx:PI w s3 A3 n3 c3 x) (hy:PI w s4 A4 n4 c4 y) (lx:x.natAbs < lim) (ly:y.natAbs < lim) (lz:(x*y).natAbs < lim) :
  Calls Tryz.prog 131 #[.pointer (some ⟨gf,0,none⟩),.pointer (some ⟨gb,0,none⟩)] w (RetPE (x*y) 0 w):=by
 have HF:=hJ hf
 have HB:=hJ hb0
 have HX:=hJ hx
 have HY:=hJ hy
 have HL:=hJ (And.intro lx (And.intro ly lz))
 clear hf hb0 hx hy lx ly lz
 obtain ⟨x1,aC⟩:=nmz (w.alloc (.cells #[.bool false,.slice none 0 0] 25))
 have aB:=hJ (show Below w.heap.size w x1 by rw [←aC]; exact ((Below.refl _ _).alloc (Nat.le_refl _) _))
 have aK:=hJ (show BX 25 x1 w.heap.size #[.bool false,.slice none 0 0] by rw [←aC]; exact (BX.at rfl))
 have aL:=hJ (show w.heap.size≤w.heap.size by omega)
 have aM:=hJ (BX.new HF.out aB.out)
 have aN:=aM.out.cell 0 rfl
 have aF:=hJ (BX.new HB.out aB.out)
 obtain ⟨aO,aR⟩:=aF.out.c2 6 7 rfl rfl
 obtain ⟨aS,aT⟩:=aF.out.c2 8 9 rfl rfl
 have aG:=hJ (PIo.new HX.out aB.out)
 have aH:=hJ (PIo.new HY.out aB.out)
 go_enter Tryz.func131,Tryz.ntmps131
 go_wp2_with fail
 clear aC aN aO aR aS aT
 refine (pmul_any x y s3 s4 A3 A4 n3 c3 n4 c4 x1 aG.out aH.out (Nat.le_trans (plim aG.out HL.out.1) (by decide)) (Nat.le_trans (plim aH.out HL.out.2.1) (by decide))).mono ?_
 rw [(in_lim HL.out.2.2).1,(in_lim HL.out.2.2).2]
 rintro e w7 ⟨s11,A11,n11,c11,rfl,hr11,hb⟩
 have aI:=hJ hb
 have aU:=hJ hr11
 clear hb hr11
 have aA:=hJ (BX.new aK.out aI.out)
 have aV:=aA.out.frozen 0
 have aW:=aA.out.cell 0 rfl
 have aX:=aA.out.frozen 1
 have aY:=aA.out.cell 1 rfl
 obtain ⟨x8,aJ⟩:=nmz (World.setCell (World.setCell w7 ⟨w.heap.size,0,none⟩ (.bool s11)) ⟨w.heap.size,1,none⟩ (.slice A11 n11 c11))
 have aD:=hJ (show sto w7 w.heap.size 0 [.bool s11,.slice A11 n11 c11]=x8 from aJ)
 have aZ:=hJ (show BX 25 x8 w.heap.size #[.bool s11,.slice A11 n11 c11] by rw [←aD.out]; exact BX.put aA.out _ _)
 have bA:=hJ (show Below w.heap.size w x8 by rw [←aD.out]; exact below_sto (bt aB.out aI.out) aL.out _ _)
 have bB:=hJ (show PI x8 s11 A11 n11 c11 (x*y) by rw [←aD.out]; exact PIo.sto aU.out aA.out rfl _ _)
 go_wp2
 clear aV aW aX aY aJ
 exact bodyPost_ret (results_cell1 rfl _ _ _ _ _ _ _ rfl aZ.out Tryz.underlying25 rfl W_size) rfl ⟨s11,A11,n11,c11,rfl,bB.out,bA.out⟩
theorem da7_any (x y:Int) (s0:Bool) (A0:Option Addr) (n0 c0:Nat) (s1:Bool) (A1:Option Addr) (n1 c1:Nat) (s2:Bool) (A2:Option Addr) (n2 c2:Nat) (s3:Bool) (A3:Option Addr) (n3 c3:Nat) (s4:Bool) (A4:Option Addr) (n4 c4:Nat) (s5:Bool) (A5:Option Addr) (n5 c5:Nat) (s6:Bool) (A6:Option Addr) (n6 c6:Nat) (gf gb:Nat) (w:World) (hf:BX 59 w gf #[.func (.func 87) #[] #[]]) (hb0:BX 170 w gb #[.bool s0,.slice A0 n0 c0,.bool s1,.slice A1 n1 c1,.bool s2,.slice A2 n2 c2,.bool s3,.slice A3 n3 c3,.bool s4,.slice A4 n4 c4,.bool s5,.slice A5 n5 c5,.bool s6,.slice A6 n6 c6]) (hx:PI w s2 A2 n2 c2 x) (hy:PI w s5 A5 n5 c5 y) (lx:x.natAbs < lim) (ly:y.natAbs < lim) (lz:(x - y).natAbs < lim) :
  Calls Tryz.prog 132 #[.pointer (some ⟨gf,0,none⟩),.pointer (some ⟨gb,0,none⟩)] w (RetPE (x - y) 0 w):=by
 have HF:=hJ hf
 have HB:=hJ hb0
 have HX:=hJ hx
 have HY:=hJ hy
 have HL:=hJ (And.intro lx (And.intro ly lz))
 clear hf hb0 hx hy lx ly lz
 obtain ⟨x1,aC⟩:=nmz (w.alloc (.cells #[.bool false,.slice none 0 0] 25))
 have aB:=hJ (show Below w.heap.size w x1 by rw [←aC]; exact ((Below.refl _ _).alloc (Nat.le_refl _) _))
 have aK:=hJ (show BX 25 x1 w.heap.size #[.bool false,.slice none 0 0] by rw [←aC]; exact (BX.at rfl))
 have aL:=hJ (show w.heap.size≤w.heap.size by omega)
 have aM:=hJ (BX.new HF.out aB.out)
 have aN:=aM.out.cell 0 rfl
 have aF:=hJ (BX.new HB.out aB.out)
 obtain ⟨aO,aR⟩:=aF.out.c2 4 5 rfl rfl
 obtain ⟨aS,aT⟩:=aF.out.c2 10 11 rfl rfl
 have aG:=hJ (PIo.new HX.out aB.out)
 have aH:=hJ (PIo.new HY.out aB.out)
 go_enter Tryz.func132,Tryz.ntmps132
 go_wp2_with fail
 clear aC aN aO aR aS aT
 refine (psub_any x y s2 s5 A2 A5 n2 c2 n5 c5 x1 aG.out aH.out (Nat.le_trans (plim aG.out HL.out.1) (by decide)) (Nat.le_trans (plim aH.out HL.out.2.1) (by decide)) HL.out.1 HL.out.2.1).mono ?_
 rw [(in_lim HL.out.2.2).1,(in_lim HL.out.2.2).2]
 rintro e w7 ⟨s11,A11,n11,c11,rfl,hr11,hb⟩
 have aI:=hJ hb
 have aU:=hJ hr11
 clear hb hr11
 have aA:=hJ (BX.new aK.out aI.out)
 have aV:=aA.out.frozen 0
 have aW:=aA.out.cell 0 rfl
 have aX:=aA.out.frozen 1
 have aY:=aA.out.cell 1 rfl
 obtain ⟨x8,aJ⟩:=nmz (World.setCell (World.setCell w7 ⟨w.heap.size,0,none⟩ (.bool s11)) ⟨w.heap.size,1,none⟩ (.slice A11 n11 c11))
 have aD:=hJ (show sto w7 w.heap.size 0 [.bool s11,.slice A11 n11 c11]=x8 from aJ)
 have aZ:=hJ (show BX 25 x8 w.heap.size #[.bool s11,.slice A11 n11 c11] by rw [←aD.out]; exact BX.put aA.out _ _)
 have bA:=hJ (show Below w.heap.size w x8 by rw [←aD.out]; exact below_sto (bt aB.out aI.out) aL.out _ _)
 have bB:=hJ (show PI x8 s11 A11 n11 c11 (x - y) by rw [←aD.out]; exact PIo.sto aU.out aA.out rfl _ _)
 go_wp2
 clear aV aW aX aY aJ
 exact bodyPost_ret (results_cell1 rfl _ _ _ _ _ _ _ rfl aZ.out Tryz.underlying25 rfl W_size) rfl ⟨s11,A11,n11,c11,rfl,bB.out,bA.out⟩
theorem darea_any (xa ya xb yb xc yc:Int) (s0:Bool) (A0:Option Addr) (n0 c0:Nat) (s1:Bool) (A1:Option Addr) (n1 c1:Nat) (s2:Bool) (A2:Option Addr) (n2 c2:Nat) (s3:Bool) (A3:Option Addr) (n3 c3:Nat) (s4:Bool) (A4:Option Addr) (n4 c4:Nat) (s5:Bool) (A5:Option Addr) (n5 c5:Nat) (w:World) (h0:PI w s0 A0 n0 c0 xa) (h1:PI w s1 A1 n1 c1 ya) (h2:PI w s2 A2 n2 c2 xb) (h3:PI w s3 A3 n3 c3 yb) (h4:PI w s4 A4 n4 c4 xc) (h5:PI w s5 A5 n5 c5 yc) (hn:Nk 1180591620717411303424 xa∧Nk 1180591620717411303424 ya∧Nk 1180591620717411303424 xb∧Nk 1180591620717411303424 yb∧Nk 1180591620717411303424 xc∧Nk 1180591620717411303424 yc) :
  Calls Tryz.prog 86 #[.func (.func 87) #[] #[],.func (.func 21) #[] #[],.agg #[.bool s0,.slice A0 n0 c0,.bool s1,.slice A1 n1 c1],.agg #[.bool s2,.slice A2 n2 c2,.bool s3,.slice A3 n3 c3],.agg #[.bool s4,.slice A4 n4 c4,.bool s5,.slice A5 n5 c5]] w (RetPE ((xb - xa)*(yc - ya) - (yb - ya)*(xc - xa)) 0 w):=by
 have dM:=hJ h0
 have dN:=hJ h1
 have eC:=hJ h2
 have eD:=hJ h3
 have eE:=hJ h4
 have eF:=hJ h5
 have HN:=hJ hn
 clear hn h0 h1 h2 h3 h4 h5
 have HD:=hJ (show (Nk (2*1180591620717411303424) (xb - xa)∧Nk (2*1180591620717411303424) (yc - ya))∧(Nk (2*1180591620717411303424) (yb - ya)∧Nk (2*1180591620717411303424) (xc - xa)) by
  obtain ⟨n1,n2,n3,n4,n5,n6⟩:=HN.out
  unfold Nk at *
  omega)
 have HM:=hJ (show Nk (2*1180591620717411303424*(2*1180591620717411303424)) ((xb - xa)*(yc - ya))∧Nk (2*1180591620717411303424*(2*1180591620717411303424)) ((yb - ya)*(xc - xa)) from ⟨nk_mul HD.out.1.1 HD.out.1.2,nk_mul HD.out.2.1 HD.out.2.2⟩)
 have eG:=hJ (PI.zero w)
 obtain ⟨x1,cI⟩:=nmz ((((((w.alloc (.cells #[.func (.func 87) #[] #[]] 59)).alloc (.cells #[.func (.func 21) #[] #[]] 59)).alloc (.cells #[.bool s0,.slice A0 n0 c0,.bool s1,.slice A1 n1 c1] 135)).alloc (.cells #[.bool s2,.slice A2 n2 c2,.bool s3,.slice A3 n3 c3] 135)).alloc (.cells #[.bool s4,.slice A4 n4 c4,.bool s5,.slice A5 n5 c5] 135)).alloc (.cells #[.bool false,.slice none 0 0] 25))
 have dO:=hJ (show Below w.heap.size w x1 by rw [←cI]; exact (((((((Below.refl _ _).alloc (Nat.le_refl _) _).alloc (by simp only [World.size_alloc]; omega) _).alloc (by simp only [World.size_alloc]; omega) _).alloc (by simp only [World.size_alloc]; omega) _).alloc (by simp only [World.size_alloc]; omega) _).alloc (by simp only [World.size_alloc]; omega) _))
 have dB:=hJ (show BX 59 x1 w.heap.size #[.func (.func 87) #[] #[]] by rw [←cI]; exact ((((((BX.at rfl).alloc _).alloc _).alloc _).alloc _).alloc _))
 have dP:=hJ (show BX 59 x1 (w.heap.size+1) #[.func (.func 21) #[] #[]] by rw [←cI]; exact (((((BX.at (by simp only [World.size_alloc])).alloc _).alloc _).alloc _).alloc _))
 have dD:=hJ (show BX 135 x1 (w.heap.size+2) #[.bool s0,.slice A0 n0 c0,.bool s1,.slice A1 n1 c1] by rw [←cI]; exact ((((BX.at (by simp only [World.size_alloc])).alloc _).alloc _).alloc _))
 have dQ:=hJ (show BX 135 x1 (w.heap.size+3) #[.bool s2,.slice A2 n2 c2,.bool s3,.slice A3 n3 c3] by rw [←cI]; exact (((BX.at (by simp only [World.size_alloc])).alloc _).alloc _))
 have dR:=hJ (show BX 135 x1 (w.heap.size+4) #[.bool s4,.slice A4 n4 c4,.bool s5,.slice A5 n5 c5] by rw [←cI]; exact ((BX.at (by simp only [World.size_alloc])).alloc _))
 have eH:=hJ (show BX 25 x1 (w.heap.size+5) #[.bool false,.slice none 0 0] by rw [←cI]; exact (BX.at (by simp only [World.size_alloc])))
 have eI:=hJ (show w.heap.size≤w.heap.size+5 by omega)
 obtain ⟨x2,dE⟩:=nmz ((x1.alloc (.cells #[.bool false,.slice none 0 0,.bool false,.slice none 0 0,.bool false,.slice none 0 0,.bool false,.slice none 0 0,.bool false,.slice none 0 0,.bool false,.slice none 0 0,.bool false,.slice none 0 0] 170)).alloc (.cells #[.func (.func 126) #[] #[.pointer (some ⟨w.heap.size,0,none⟩),.pointer (some ⟨w.heap.size+3,0,none⟩),.pointer (some ⟨w.heap.size+2,0,none⟩)],.func (.func 127) #[] #[.pointer (some ⟨w.heap.size,0,none⟩),.pointer (some ⟨w.heap.size+4,0,none⟩),.pointer (some ⟨w.heap.size+2,0,none⟩)],.func (.func 128) #[] #[.pointer (some ⟨w.heap.size+1,0,none⟩),.pointer (some ⟨x1.heap.size,0,none⟩)],.func (.func 129) #[] #[.pointer (some ⟨w.heap.size,0,none⟩),.pointer (some ⟨w.heap.size+3,0,none⟩),.pointer (some ⟨w.heap.size+2,0,none⟩)],.func (.func 130) #[] #[.pointer (some ⟨w.heap.size,0,none⟩),.pointer (some ⟨w.heap.size+4,0,none⟩),.pointer (some ⟨w.heap.size+2,0,none⟩)],.func (.func 131) #[] #[.pointer (some ⟨w.heap.size+1,0,none⟩),.pointer (some ⟨x1.heap.size,0,none⟩)],.func (.func 132) #[] #[.pointer (some ⟨w.heap.size,0,none⟩),.pointer (some ⟨x1.heap.size,0,none⟩)]] 172))
 have dS:=hJ (show Below x1.heap.size x1 x2 by rw [←dE]; exact (((Below.refl _ _).alloc (Nat.le_refl _) _).alloc (by simp only [World.size_alloc]; omega) _))
 have eJ:=hJ (show BX 170 x2 x1.heap.size #[.bool false,.slice none 0 0,.bool false,.slice none 0 0,.bool false,.slice none 0 0,.bool false,.slice none 0 0,.bool false,.slice none 0 0,.bool false,.slice none 0 0,.bool false,.slice none 0 0] by rw [←dE]; exact ((BX.at rfl).alloc _))
 have cQ:=hJ (show x1.heap.size≤x1.heap.size by omega)
 have dF:=hJ (show BX 172 x2 (x1.heap.size+1) #[.func (.func 126) #[] #[.pointer (some ⟨w.heap.size,0,none⟩),.pointer (some ⟨w.heap.size+3,0,none⟩),.pointer (some ⟨w.heap.size+2,0,none⟩)],.func (.func 127) #[] #[.pointer (some ⟨w.heap.size,0,none⟩),.pointer (some ⟨w.heap.size+4,0,none⟩),.pointer (some ⟨w.heap.size+2,0,none⟩)],.func (.func 128) #[] #[.pointer (some ⟨w.heap.size+1,0,none⟩),.pointer (some ⟨x1.heap.size,0,none⟩)],.func (.func 129) #[] #[.pointer (some ⟨w.heap.size,0,none⟩),.pointer (some ⟨w.heap.size+3,0,none⟩),.pointer (some ⟨w.heap.size+2,0,none⟩)],.func (.func 130) #[] #[.pointer (some ⟨w.heap.size,0,none⟩),.pointer (some ⟨w.heap.size+4,0,none⟩),.pointer (some ⟨w.heap.size+2,0,none⟩)],.func (.func 131) #[] #[.pointer (some ⟨w.heap.size+1,0,none⟩),.pointer (some ⟨x1.heap.size,0,none⟩)],.func (.func 132) #[] #[.pointer (some ⟨w.heap.size,0,none⟩),.pointer (some ⟨x1.heap.size,0,none⟩)]] by rw [←dE]; exact (BX.at (by simp only [World.size_alloc])))
 obtain ⟨eK,eL,eM,eN⟩:=dF.out.q4 0 1 2 3
 have eO:=dF.out.cell 4 rfl
 have eP:=dF.out.cell 5 rfl
 have eQ:=dF.out.cell 6 rfl
 have eR:=hJ (bt dO.out dS.out)
 have cR:=hJ (PIo.new eG.out eR.out)
 go_enter Tryz.func86,Tryz.ntmps86
 go_wp2_with fail
 clear cI dE eK eL eM eN eO eP eQ
 go_loopw [27] (fun tv wr=>∃ (i:Nat) (aH:Bool) (aI:Option Addr) (aJ:Nat) (aK:Nat) (aL:Bool) (aM:Option Addr) (aN:Nat) (aO:Nat) (aR:Bool) (aS:Option Addr) (aT:Nat) (aU:Nat) (aV:Bool) (aW:Option Addr) (aX:Nat) (aY:Nat) (aZ:Bool) (bA:Option Addr) (bB:Nat) (bC:Nat) (bD:Bool) (bE:Option Addr) (bF:Nat) (bG:Nat) (aB:Bool) (aC:Option Addr) (aD:Nat) (aF:Nat) (z0_10:Int) (z1_10:Int) (z2_10:Int) (z3_10:Int) (z4_10:Int) (z5_10:Int) (z6_10:Int),i≤7∧tv=.int .i64 (i:Int)∧BX 170 wr x1.heap.size #[.bool aH,.slice aI aJ aK,.bool aL,.slice aM aN aO,.bool aR,.slice aS aT aU,.bool aV,.slice aW aX aY,.bool aZ,.slice bA bB bC,.bool bD,.slice bE bF bG,.bool aB,.slice aC aD aF]∧PI wr aH aI aJ aK z0_10∧PI wr aL aM aN aO z1_10∧PI wr aR aS aT aU z2_10∧PI wr aV aW aX aY z3_10∧PI wr aZ bA bB bC z4_10∧PI wr bD bE bF bG z5_10∧PI wr aB aC aD aF z6_10∧Hid ((0 < i→z0_10=xb - xa)∧(1 < i→z1_10=yc - ya)∧(2 < i→z2_10=(xb - xa)*(yc - ya))∧(3 < i→z3_10=yb - ya)∧(4 < i→z4_10=xc - xa)∧(5 < i→z5_10=(yb - ya)*(xc - xa))∧(6 < i→z6_10=((xb - xa)*(yc - ya)) - ((yb - ya)*(xc - xa))))∧Below x1.heap.size x1 wr) (fun tv _=>7 - (intOf tv).toNat)
 case atStart=>exact ⟨0,false,none,0,0,false,none,0,0,false,none,0,0,false,none,0,0,false,none,0,0,false,none,0,0,false,none,0,0,0,0,0,0,0,0,0,by omega,rfl,eJ.out,cR.out,cR.out,cR.out,cR.out,cR.out,cR.out,cR.out,hJ (⟨fun h=>absurd h (by decide),fun h=>absurd h (by decide),fun h=>absurd h (by decide),fun h=>absurd h (by decide),fun h=>absurd h (by decide),fun h=>absurd h (by decide),fun h=>absurd h (by decide)⟩),dS.out⟩
 case round =>
  obtain ⟨i10,aH,aI,aJ,aK,aL,aM,aN,aO,aR,aS,aT,aU,aV,aW,aX,aY,aZ,bA,bB,bC,bD,bE,bF,bG,aB,aC,aD,aF,z0_10,z1_10,z2_10,z3_10,z4_10,z5_10,z6_10,hi,rfl,hz10_0,hz10_1,hz10_2,hz10_3,hz10_4,hz10_5,hz10_6,hz10_7,aG,hbel⟩:=hrel
  obtain ⟨wl10,rfl⟩:∃ W:World,W=wr:=⟨_,rfl⟩
  have bH:=hJ hbel
  have bL:=hJ hz10_0
  have cS:=hJ hz10_1
  have cT:=hJ hz10_2
  have cU:=hJ hz10_3
  have cV:=hJ hz10_4
  have cW:=hJ hz10_5
  have cX:=hJ hz10_6
  have cY:=hJ hz10_7
  clear hbel hz10_0 hz10_1 hz10_2 hz10_3 hz10_4 hz10_5 hz10_6 hz10_7
  have bZ:=hJ (bt dO.out bH.out)
  have hcs:i10=0∨i10=1∨i10=2∨i10=3∨i10=4∨i10=5∨i10=6∨i10=7:=by omega
  clear hi
  rcases hcs with rfl | rfl | rfl | rfl | rfl | rfl | rfl | rfl
  ·(try rw [show ((0:Nat):Int)=0 from rfl])
   have hix:∀ wx,(Instr.index 172 (.agg #[.func (.func 126) #[] #[.pointer (some ⟨w.heap.size,0,none⟩),.pointer (some ⟨w.heap.size+3,0,none⟩),.pointer (some ⟨w.heap.size+2,0,none⟩)],.func (.func 127) #[] #[.pointer (some ⟨w.heap.size,0,none⟩),.pointer (some ⟨w.heap.size+4,0,none⟩),.pointer (some ⟨w.heap.size+2,0,none⟩)],.func (.func 128) #[] #[.pointer (some ⟨w.heap.size+1,0,none⟩),.pointer (some ⟨x1.heap.size,0,none⟩)],.func (.func 129) #[] #[.pointer (some ⟨w.heap.size,0,none⟩),.pointer (some ⟨w.heap.size+3,0,none⟩),.pointer (some ⟨w.heap.size+2,0,none⟩)],.func (.func 130) #[] #[.pointer (some ⟨w.heap.size,0,none⟩),.pointer (some ⟨w.heap.size+4,0,none⟩),.pointer (some ⟨w.heap.size+2,0,none⟩)],.func (.func 131) #[] #[.pointer (some ⟨w.heap.size+1,0,none⟩),.pointer (some ⟨x1.heap.size,0,none⟩)],.func (.func 132) #[] #[.pointer (some ⟨w.heap.size,0,none⟩),.pointer (some ⟨x1.heap.size,0,none⟩)]]) (.int .i64 0)).run Tryz.prog wx=.ok (.func (.func 126) #[] #[.pointer (some ⟨w.heap.size,0,none⟩),.pointer (some ⟨w.heap.size+3,0,none⟩),.pointer (some ⟨w.heap.size+2,0,none⟩)]) wx:=fun wx=>fx7_0 wx
   have cA:=hJ (BX.new dB.out bH.out)
   have dG:=hJ (BX.new dQ.out bH.out)
   have cZ:=hJ (BX.new dD.out bH.out)
   have eS:=hJ (PIo.new eC.out bZ.out)
   have dH:=hJ (PIo.new dM.out bZ.out)
   go_wp2_with fail
   clear hix
   refine (da1_any xb xa s2 A2 n2 c2 s3 A3 n3 c3 s0 A0 n0 c0 s1 A1 n1 c1 w.heap.size (w.heap.size+3) (w.heap.size+2) wl10 cA.out dG.out cZ.out eS.out dH.out (nk_lim HN.out.2.2.1) (nk_lim HN.out.1) (nk_lim HD.out.1.1)).mono ?_
   rintro e w11 ⟨s11,A11,n11,c11,rfl,hr11,hb⟩
   have cJ:=hJ hb
   have eT:=hJ hr11
   clear hb hr11
   have aA:=hJ (BX.new bL.out cJ.out)
   have eU:=aA.out.frozen 0
   have eV:=aA.out.cell 0 rfl
   have eW:=aA.out.frozen 1
   have eX:=aA.out.cell 1 rfl
   obtain ⟨x12,dT⟩:=nmz (World.setCell (World.setCell w11 ⟨x1.heap.size,0,none⟩ (.bool s11)) ⟨x1.heap.size,1,none⟩ (.slice A11 n11 c11))
   have cB:=hJ (show sto w11 x1.heap.size 0 [.bool s11,.slice A11 n11 c11]=x12 from dT)
   have eY:=hJ (show BX 170 x12 x1.heap.size #[.bool s11,.slice A11 n11 c11,.bool aL,.slice aM aN aO,.bool aR,.slice aS aT aU,.bool aV,.slice aW aX aY,.bool aZ,.slice bA bB bC,.bool bD,.slice bE bF bG,.bool aB,.slice aC aD aF] by rw [←cB.out]; exact BX.put aA.out _ _)
   have eZ:=hJ (show PI x12 s11 A11 n11 c11 (xb - xa) by rw [←cB.out]; exact PIo.sto eT.out aA.out rfl _ _)
   have bM:=hJ (PIo.new cT.out cJ.out)
   have bN:=hJ (show PI x12 aL aM aN aO z1_10 by rw [←cB.out]; exact PIo.sto bM.out aA.out rfl _ _)
   have bO:=hJ (PIo.new cU.out cJ.out)
   have bP:=hJ (show PI x12 aR aS aT aU z2_10 by rw [←cB.out]; exact PIo.sto bO.out aA.out rfl _ _)
   have bQ:=hJ (PIo.new cV.out cJ.out)
   have bR:=hJ (show PI x12 aV aW aX aY z3_10 by rw [←cB.out]; exact PIo.sto bQ.out aA.out rfl _ _)
   have bS:=hJ (PIo.new cW.out cJ.out)
   have bT:=hJ (show PI x12 aZ bA bB bC z4_10 by rw [←cB.out]; exact PIo.sto bS.out aA.out rfl _ _)
   have bU:=hJ (PIo.new cX.out cJ.out)
   have bV:=hJ (show PI x12 bD bE bF bG z5_10 by rw [←cB.out]; exact PIo.sto bU.out aA.out rfl _ _)
   have bJ:=hJ (PIo.new cY.out cJ.out)
   have bW:=hJ (show PI x12 aB aC aD aF z6_10 by rw [←cB.out]; exact PIo.sto bJ.out aA.out rfl _ _)
   have bK:=hJ (show Below x1.heap.size x1 x12 by rw [←cB.out]; exact below_sto (bt bH.out cJ.out) cQ.out _ _)
   go_wp2_with fail
   clear eU eV eW eX dT
   go_roundw
   case rel=>exact ⟨0+1,s11,A11,n11,c11,aL,aM,aN,aO,aR,aS,aT,aU,aV,aW,aX,aY,aZ,bA,bB,bC,bD,bE,bF,bG,aB,aC,aD,aF,(xb - xa),z1_10,z2_10,z3_10,z4_10,z5_10,z6_10,by omega,by go_num,eY.out,eZ.out,bN.out,bP.out,bR.out,bT.out,bV.out,bW.out,hJ (⟨fun _=>rfl,fun h=>absurd h (by decide),fun h=>absurd h (by decide),fun h=>absurd h (by decide),fun h=>absurd h (by decide),fun h=>absurd h (by decide),fun h=>absurd h (by decide)⟩),bK.out⟩
   case measure=>simp [intOf] <;> omega
  ·(try rw [show ((1:Nat):Int)=1 from rfl])
   obtain rfl:xb - xa=z0_10:=(aG.out.1 (by decide)).symm
   have hix:∀ wx,(Instr.index 172 (.agg #[.func (.func 126) #[] #[.pointer (some ⟨w.heap.size,0,none⟩),.pointer (some ⟨w.heap.size+3,0,none⟩),.pointer (some ⟨w.heap.size+2,0,none⟩)],.func (.func 127) #[] #[.pointer (some ⟨w.heap.size,0,none⟩),.pointer (some ⟨w.heap.size+4,0,none⟩),.pointer (some ⟨w.heap.size+2,0,none⟩)],.func (.func 128) #[] #[.pointer (some ⟨w.heap.size+1,0,none⟩),.pointer (some ⟨x1.heap.size,0,none⟩)],.func (.func 129) #[] #[.pointer (some ⟨w.heap.size,0,none⟩),.pointer (some ⟨w.heap.size+3,0,none⟩),.pointer (some ⟨w.heap.size+2,0,none⟩)],.func (.func 130) #[] #[.pointer (some ⟨w.heap.size,0,none⟩),.pointer (some ⟨w.heap.size+4,0,none⟩),.pointer (some ⟨w.heap.size+2,0,none⟩)],.func (.func 131) #[] #[.pointer (some ⟨w.heap.size+1,0,none⟩),.pointer (some ⟨x1.heap.size,0,none⟩)],.func (.func 132) #[] #[.pointer (some ⟨w.heap.size,0,none⟩),.pointer (some ⟨x1.heap.size,0,none⟩)]]) (.int .i64 1)).run Tryz.prog wx=.ok (.func (.func 127) #[] #[.pointer (some ⟨w.heap.size,0,none⟩),.pointer (some ⟨w.heap.size+4,0,none⟩),.pointer (some ⟨w.heap.size+2,0,none⟩)]) wx:=fun wx=>fx7_1 wx
   have cA:=hJ (BX.new dB.out bH.out)
   have dI:=hJ (BX.new dR.out bH.out)
   have cZ:=hJ (BX.new dD.out bH.out)
   have fA:=hJ (PIo.new eF.out bZ.out)
   have dJ:=hJ (PIo.new dN.out bZ.out)
   go_wp2_with fail
   clear hix
   refine (da2_any yc ya s4 A4 n4 c4 s5 A5 n5 c5 s0 A0 n0 c0 s1 A1 n1 c1 w.heap.size (w.heap.size+4) (w.heap.size+2) wl10 cA.out dI.out cZ.out fA.out dJ.out (nk_lim HN.out.2.2.2.2.2) (nk_lim HN.out.2.1) (nk_lim HD.out.1.2)).mono ?_
   rintro e w13 ⟨s12,A12,n12,c12,rfl,hr12,hb⟩
   have cK:=hJ hb
   have fB:=hJ hr12
   clear hb hr12
   have aA:=hJ (BX.new bL.out cK.out)
   have fC:=aA.out.frozen 2
   have fD:=aA.out.cell 2 rfl
   have fE:=aA.out.frozen 3
   have fF:=aA.out.cell 3 rfl
   obtain ⟨x14,dU⟩:=nmz (World.setCell (World.setCell w13 ⟨x1.heap.size,2,none⟩ (.bool s12)) ⟨x1.heap.size,3,none⟩ (.slice A12 n12 c12))
   have cC:=hJ (show sto w13 x1.heap.size 2 [.bool s12,.slice A12 n12 c12]=x14 from dU)
   have fG:=hJ (show BX 170 x14 x1.heap.size #[.bool aH,.slice aI aJ aK,.bool s12,.slice A12 n12 c12,.bool aR,.slice aS aT aU,.bool aV,.slice aW aX aY,.bool aZ,.slice bA bB bC,.bool bD,.slice bE bF bG,.bool aB,.slice aC aD aF] by rw [←cC.out]; exact BX.put aA.out _ _)
   have bX:=hJ (PIo.new cS.out cK.out)
   have bY:=hJ (show PI x14 aH aI aJ aK (xb - xa) by rw [←cC.out]; exact PIo.sto bX.out aA.out rfl _ _)
   have fH:=hJ (show PI x14 s12 A12 n12 c12 (yc - ya) by rw [←cC.out]; exact PIo.sto fB.out aA.out rfl _ _)
   have bO:=hJ (PIo.new cU.out cK.out)
   have bP:=hJ (show PI x14 aR aS aT aU z2_10 by rw [←cC.out]; exact PIo.sto bO.out aA.out rfl _ _)
   have bQ:=hJ (PIo.new cV.out cK.out)
   have bR:=hJ (show PI x14 aV aW aX aY z3_10 by rw [←cC.out]; exact PIo.sto bQ.out aA.out rfl _ _)
   have bS:=hJ (PIo.new cW.out cK.out)
   have bT:=hJ (show PI x14 aZ bA bB bC z4_10 by rw [←cC.out]; exact PIo.sto bS.out aA.out rfl _ _)
   have bU:=hJ (PIo.new cX.out cK.out)
   have bV:=hJ (show PI x14 bD bE bF bG z5_10 by rw [←cC.out]; exact PIo.sto bU.out aA.out rfl _ _)
   have bJ:=hJ (PIo.new cY.out cK.out)
   have bW:=hJ (show PI x14 aB aC aD aF z6_10 by rw [←cC.out]; exact PIo.sto bJ.out aA.out rfl _ _)
   have bK:=hJ (show Below x1.heap.size x1 x14 by rw [←cC.out]; exact below_sto (bt bH.out cK.out) cQ.out _ _)
   go_wp2_with fail
   clear fC fD fE fF dU
   go_roundw
   case rel=>exact ⟨1+1,aH,aI,aJ,aK,s12,A12,n12,c12,aR,aS,aT,aU,aV,aW,aX,aY,aZ,bA,bB,bC,bD,bE,bF,bG,aB,aC,aD,aF,(xb - xa),(yc - ya),z2_10,z3_10,z4_10,z5_10,z6_10,by omega,by go_num,fG.out,bY.out,fH.out,bP.out,bR.out,bT.out,bV.out,bW.out,hJ (⟨fun _=>rfl,fun _=>rfl,fun h=>absurd h (by decide),fun h=>absurd h (by decide),fun h=>absurd h (by decide),fun h=>absurd h (by decide),fun h=>absurd h (by decide)⟩),bK.out⟩
   case measure=>simp [intOf] <;> omega
  ·(try rw [show ((2:Nat):Int)=2 from rfl])
   obtain rfl:xb - xa=z0_10:=(aG.out.1 (by decide)).symm
   obtain rfl:yc - ya=z1_10:=(aG.out.2.1 (by decide)).symm
   have hix:∀ wx,(Instr.index 172 (.agg #[.func (.func 126) #[] #[.pointer (some ⟨w.heap.size,0,none⟩),.pointer (some ⟨w.heap.size+3,0,none⟩),.pointer (some ⟨w.heap.size+2,0,none⟩)],.func (.func 127) #[] #[.pointer (some ⟨w.heap.size,0,none⟩),.pointer (some ⟨w.heap.size+4,0,none⟩),.pointer (some ⟨w.heap.size+2,0,none⟩)],.func (.func 128) #[] #[.pointer (some ⟨w.heap.size+1,0,none⟩),.pointer (some ⟨x1.heap.size,0,none⟩)],.func (.func 129) #[] #[.pointer (some ⟨w.heap.size,0,none⟩),.pointer (some ⟨w.heap.size+3,0,none⟩),.pointer (some ⟨w.heap.size+2,0,none⟩)],.func (.func 130) #[] #[.pointer (some ⟨w.heap.size,0,none⟩),.pointer (some ⟨w.heap.size+4,0,none⟩),.pointer (some ⟨w.heap.size+2,0,none⟩)],.func (.func 131) #[] #[.pointer (some ⟨w.heap.size+1,0,none⟩),.pointer (some ⟨x1.heap.size,0,none⟩)],.func (.func 132) #[] #[.pointer (some ⟨w.heap.size,0,none⟩),.pointer (some ⟨x1.heap.size,0,none⟩)]]) (.int .i64 2)).run Tryz.prog wx=.ok (.func (.func 128) #[] #[.pointer (some ⟨w.heap.size+1,0,none⟩),.pointer (some ⟨x1.heap.size,0,none⟩)]) wx:=fun wx=>fx7_2 wx
   have dK:=hJ (BX.new dP.out bH.out)
   go_wp2_with fail
   clear hix
   refine (da3_any (xb - xa) (yc - ya) aH aI aJ aK aL aM aN aO aR aS aT aU aV aW aX aY aZ bA bB bC bD bE bF bG aB aC aD aF (w.heap.size+1) x1.heap.size wl10 dK.out bL.out cS.out cT.out (nk_lim HD.out.1.1) (nk_lim HD.out.1.2) (nk_lim HM.out.1)).mono ?_
   rintro e w15 ⟨s13,A13,n13,c13,rfl,hr13,hb⟩
   have cL:=hJ hb
   have fI:=hJ hr13
   clear hb hr13
   have aA:=hJ (BX.new bL.out cL.out)
   have fJ:=aA.out.frozen 4
   have fK:=aA.out.cell 4 rfl
   have fL:=aA.out.frozen 5
   have fM:=aA.out.cell 5 rfl
   obtain ⟨x16,dW⟩:=nmz (World.setCell (World.setCell w15 ⟨x1.heap.size,4,none⟩ (.bool s13)) ⟨x1.heap.size,5,none⟩ (.slice A13 n13 c13))
   have cD:=hJ (show sto w15 x1.heap.size 4 [.bool s13,.slice A13 n13 c13]=x16 from dW)
   have fN:=hJ (show BX 170 x16 x1.heap.size #[.bool aH,.slice aI aJ aK,.bool aL,.slice aM aN aO,.bool s13,.slice A13 n13 c13,.bool aV,.slice aW aX aY,.bool aZ,.slice bA bB bC,.bool bD,.slice bE bF bG,.bool aB,.slice aC aD aF] by rw [←cD.out]; exact BX.put aA.out _ _)
   have bX:=hJ (PIo.new cS.out cL.out)
   have bY:=hJ (show PI x16 aH aI aJ aK (xb - xa) by rw [←cD.out]; exact PIo.sto bX.out aA.out rfl _ _)
   have bM:=hJ (PIo.new cT.out cL.out)
   have bN:=hJ (show PI x16 aL aM aN aO (yc - ya) by rw [←cD.out]; exact PIo.sto bM.out aA.out rfl _ _)
   have fO:=hJ (show PI x16 s13 A13 n13 c13 ((xb - xa)*(yc - ya)) by rw [←cD.out]; exact PIo.sto fI.out aA.out rfl _ _)
   have bQ:=hJ (PIo.new cV.out cL.out)
   have bR:=hJ (show PI x16 aV aW aX aY z3_10 by rw [←cD.out]; exact PIo.sto bQ.out aA.out rfl _ _)
   have bS:=hJ (PIo.new cW.out cL.out)
   have bT:=hJ (show PI x16 aZ bA bB bC z4_10 by rw [←cD.out]; exact PIo.sto bS.out aA.out rfl _ _)
   have bU:=hJ (PIo.new cX.out cL.out)
   have bV:=hJ (show PI x16 bD bE bF bG z5_10 by rw [←cD.out]; exact PIo.sto bU.out aA.out rfl _ _)
   have bJ:=hJ (PIo.new cY.out cL.out)
   have bW:=hJ (show PI x16 aB aC aD aF z6_10 by rw [←cD.out]; exact PIo.sto bJ.out aA.out rfl _ _)
   have bK:=hJ (show Below x1.heap.size x1 x16 by rw [←cD.out]; exact below_sto (bt bH.out cL.out) cQ.out _ _)
   go_wp2_with fail
   clear fJ fK fL fM dW
   go_roundw
   case rel=>exact ⟨2+1,aH,aI,aJ,aK,aL,aM,aN,aO,s13,A13,n13,c13,aV,aW,aX,aY,aZ,bA,bB,bC,bD,bE,bF,bG,aB,aC,aD,aF,(xb - xa),(yc - ya),((xb - xa)*(yc - ya)),z3_10,z4_10,z5_10,z6_10,by omega,by go_num,fN.out,bY.out,bN.out,fO.out,bR.out,bT.out,bV.out,bW.out,hJ (⟨fun _=>rfl,fun _=>rfl,fun _=>rfl,fun h=>absurd h (by decide),fun h=>absurd h (by decide),fun h=>absurd h (by decide),fun h=>absurd h (by decide)⟩),bK.out⟩
   case measure=>simp [intOf] <;> omega
  ·(try rw [show ((3:Nat):Int)=3 from rfl])
   obtain rfl:xb - xa=z0_10:=(aG.out.1 (by decide)).symm
   obtain rfl:yc - ya=z1_10:=(aG.out.2.1 (by decide)).symm
   obtain rfl:(xb - xa)*(yc - ya)=z2_10:=(aG.out.2.2.1 (by decide)).symm
   have hix:∀ wx,(Instr.index 172 (.agg #[.func (.func 126) #[] #[.pointer (some ⟨w.heap.size,0,none⟩),.pointer (some ⟨w.heap.size+3,0,none⟩),.pointer (some ⟨w.heap.size+2,0,none⟩)],.func (.func 127) #[] #[.pointer (some ⟨w.heap.size,0,none⟩),.pointer (some ⟨w.heap.size+4,0,none⟩),.pointer (some ⟨w.heap.size+2,0,none⟩)],.func (.func 128) #[] #[.pointer (some ⟨w.heap.size+1,0,none⟩),.pointer (some ⟨x1.heap.size,0,none⟩)],.func (.func 129) #[] #[.pointer (some ⟨w.heap.size,0,none⟩),.pointer (some ⟨w.heap.size+3,0,none⟩),.pointer (some ⟨w.heap.size+2,0,none⟩)],.func (.func 130) #[] #[.pointer (some ⟨w.heap.size,0,none⟩),.pointer (some ⟨w.heap.size+4,0,none⟩),.pointer (some ⟨w.heap.size+2,0,none⟩)],.func (.func 131) #[] #[.pointer (some ⟨w.heap.size+1,0,none⟩),.pointer (some ⟨x1.heap.size,0,none⟩)],.func (.func 132) #[] #[.pointer (some ⟨w.heap.size,0,none⟩),.pointer (some ⟨x1.heap.size,0,none⟩)]]) (.int .i64 3)).run Tryz.prog wx=.ok (.func (.func 129) #[] #[.pointer (some ⟨w.heap.size,0,none⟩),.pointer (some ⟨w.heap.size+3,0,none⟩),.pointer (some ⟨w.heap.size+2,0,none⟩)]) wx:=fun wx=>fx7_3 wx
   have cA:=hJ (BX.new dB.out bH.out)
   have dG:=hJ (BX.new dQ.out bH.out)
   have cZ:=hJ (BX.new dD.out bH.out)
   have fP:=hJ (PIo.new eD.out bZ.out)
   have dJ:=hJ (PIo.new dN.out bZ.out)
   go_wp2_with fail
   clear hix
   refine (da4_any yb ya s2 A2 n2 c2 s3 A3 n3 c3 s0 A0 n0 c0 s1 A1 n1 c1 w.heap.size (w.heap.size+3) (w.heap.size+2) wl10 cA.out dG.out cZ.out fP.out dJ.out (nk_lim HN.out.2.2.2.1) (nk_lim HN.out.2.1) (nk_lim HD.out.2.1)).mono ?_
   rintro e w17 ⟨s14,A14,n14,c14,rfl,hr14,hb⟩
   have cM:=hJ hb
   have fQ:=hJ hr14
   clear hb hr14
   have aA:=hJ (BX.new bL.out cM.out)
   have fR:=aA.out.frozen 6
   have fS:=aA.out.cell 6 rfl
   have fT:=aA.out.frozen 7
   have fU:=aA.out.cell 7 rfl
   obtain ⟨x18,dX⟩:=nmz (World.setCell (World.setCell w17 ⟨x1.heap.size,6,none⟩ (.bool s14)) ⟨x1.heap.size,7,none⟩ (.slice A14 n14 c14))
   have cE:=hJ (show sto w17 x1.heap.size 6 [.bool s14,.slice A14 n14 c14]=x18 from dX)
   have fV:=hJ (show BX 170 x18 x1.heap.size #[.bool aH,.slice aI aJ aK,.bool aL,.slice aM aN aO,.bool aR,.slice aS aT aU,.bool s14,.slice A14 n14 c14,.bool aZ,.slice bA bB bC,.bool bD,.slice bE bF bG,.bool aB,.slice aC aD aF] by rw [←cE.out]; exact BX.put aA.out _ _)
   have bX:=hJ (PIo.new cS.out cM.out)
   have bY:=hJ (show PI x18 aH aI aJ aK (xb - xa) by rw [←cE.out]; exact PIo.sto bX.out aA.out rfl _ _)
   have bM:=hJ (PIo.new cT.out cM.out)
   have bN:=hJ (show PI x18 aL aM aN aO (yc - ya) by rw [←cE.out]; exact PIo.sto bM.out aA.out rfl _ _)
   have bO:=hJ (PIo.new cU.out cM.out)
   have bP:=hJ (show PI x18 aR aS aT aU ((xb - xa)*(yc - ya)) by rw [←cE.out]; exact PIo.sto bO.out aA.out rfl _ _)
   have fW:=hJ (show PI x18 s14 A14 n14 c14 (yb - ya) by rw [←cE.out]; exact PIo.sto fQ.out aA.out rfl _ _)
   have bS:=hJ (PIo.new cW.out cM.out)
   have bT:=hJ (show PI x18 aZ bA bB bC z4_10 by rw [←cE.out]; exact PIo.sto bS.out aA.out rfl _ _)
   have bU:=hJ (PIo.new cX.out cM.out)
   have bV:=hJ (show PI x18 bD bE bF bG z5_10 by rw [←cE.out]; exact PIo.sto bU.out aA.out rfl _ _)
   have bJ:=hJ (PIo.new cY.out cM.out)
   have bW:=hJ (show PI x18 aB aC aD aF z6_10 by rw [←cE.out]; exact PIo.sto bJ.out aA.out rfl _ _)
   have bK:=hJ (show Below x1.heap.size x1 x18 by rw [←cE.out]; exact below_sto (bt bH.out cM.out) cQ.out _ _)
   go_wp2_with fail
   clear fR fS fT fU dX
   go_roundw
   case rel=>exact ⟨3+1,aH,aI,aJ,aK,aL,aM,aN,aO,aR,aS,aT,aU,s14,A14,n14,c14,aZ,bA,bB,bC,bD,bE,bF,bG,aB,aC,aD,aF,(xb - xa),(yc - ya),((xb - xa)*(yc - ya)),(yb - ya),z4_10,z5_10,z6_10,by omega,by go_num,fV.out,bY.out,bN.out,bP.out,fW.out,bT.out,bV.out,bW.out,hJ (⟨fun _=>rfl,fun _=>rfl,fun _=>rfl,fun _=>rfl,fun h=>absurd h (by decide),fun h=>absurd h (by decide),fun h=>absurd h (by decide)⟩),bK.out⟩
   case measure=>simp [intOf] <;> omega
  ·(try rw [show ((4:Nat):Int)=4 from rfl])
   obtain rfl:xb - xa=z0_10:=(aG.out.1 (by decide)).symm
   obtain rfl:yc - ya=z1_10:=(aG.out.2.1 (by decide)).symm
   obtain rfl:(xb - xa)*(yc - ya)=z2_10:=(aG.out.2.2.1 (by decide)).symm
   obtain rfl:yb - ya=z3_10:=(aG.out.2.2.2.1 (by decide)).symm
   have hix:∀ wx,(Instr.index 172 (.agg #[.func (.func 126) #[] #[.pointer (some ⟨w.heap.size,0,none⟩),.pointer (some ⟨w.heap.size+3,0,none⟩),.pointer (some ⟨w.heap.size+2,0,none⟩)],.func (.func 127) #[] #[.pointer (some ⟨w.heap.size,0,none⟩),.pointer (some ⟨w.heap.size+4,0,none⟩),.pointer (some ⟨w.heap.size+2,0,none⟩)],.func (.func 128) #[] #[.pointer (some ⟨w.heap.size+1,0,none⟩),.pointer (some ⟨x1.heap.size,0,none⟩)],.func (.func 129) #[] #[.pointer (some ⟨w.heap.size,0,none⟩),.pointer (some ⟨w.heap.size+3,0,none⟩),.pointer (some ⟨w.heap.size+2,0,none⟩)],.func (.func 130) #[] #[.pointer (some ⟨w.heap.size,0,none⟩),.pointer (some ⟨w.heap.size+4,0,none⟩),.pointer (some ⟨w.heap.size+2,0,none⟩)],.func (.func 131) #[] #[.pointer (some ⟨w.heap.size+1,0,none⟩),.pointer (some ⟨x1.heap.size,0,none⟩)],.func (.func 132) #[] #[.pointer (some ⟨w.heap.size,0,none⟩),.pointer (some ⟨x1.heap.size,0,none⟩)]]) (.int .i64 4)).run Tryz.prog wx=.ok (.func (.func 130) #[] #[.pointer (some ⟨w.heap.size,0,none⟩),.pointer (some ⟨w.heap.size+4,0,none⟩),.pointer (some ⟨w.heap.size+2,0,none⟩)]) wx:=fun wx=>fx7_4 wx
   have cA:=hJ (BX.new dB.out bH.out)
   have dI:=hJ (BX.new dR.out bH.out)
   have cZ:=hJ (BX.new dD.out bH.out)
   have fX:=hJ (PIo.new eE.out bZ.out)
   have dH:=hJ (PIo.new dM.out bZ.out)
   go_wp2_with fail
   clear hix
   refine (da5_any xc xa s4 A4 n4 c4 s5 A5 n5 c5 s0 A0 n0 c0 s1 A1 n1 c1 w.heap.size (w.heap.size+4) (w.heap.size+2) wl10 cA.out dI.out cZ.out fX.out dH.out (nk_lim HN.out.2.2.2.2.1) (nk_lim HN.out.1) (nk_lim HD.out.2.2)).mono ?_
   rintro e w19 ⟨s15,A15,n15,c15,rfl,hr15,hb⟩
   have cN:=hJ hb
   have fY:=hJ hr15
   clear hb hr15
   have aA:=hJ (BX.new bL.out cN.out)
   have fZ:=aA.out.frozen 8
   have gA:=aA.out.cell 8 rfl
   have gB:=aA.out.frozen 9
   have gC:=aA.out.cell 9 rfl
   obtain ⟨x20,dY⟩:=nmz (World.setCell (World.setCell w19 ⟨x1.heap.size,8,none⟩ (.bool s15)) ⟨x1.heap.size,9,none⟩ (.slice A15 n15 c15))
   have cF:=hJ (show sto w19 x1.heap.size 8 [.bool s15,.slice A15 n15 c15]=x20 from dY)
   have gD:=hJ (show BX 170 x20 x1.heap.size #[.bool aH,.slice aI aJ aK,.bool aL,.slice aM aN aO,.bool aR,.slice aS aT aU,.bool aV,.slice aW aX aY,.bool s15,.slice A15 n15 c15,.bool bD,.slice bE bF bG,.bool aB,.slice aC aD aF] by rw [←cF.out]; exact BX.put aA.out _ _)
   have bX:=hJ (PIo.new cS.out cN.out)
   have bY:=hJ (show PI x20 aH aI aJ aK (xb - xa) by rw [←cF.out]; exact PIo.sto bX.out aA.out rfl _ _)
   have bM:=hJ (PIo.new cT.out cN.out)
   have bN:=hJ (show PI x20 aL aM aN aO (yc - ya) by rw [←cF.out]; exact PIo.sto bM.out aA.out rfl _ _)
   have bO:=hJ (PIo.new cU.out cN.out)
   have bP:=hJ (show PI x20 aR aS aT aU ((xb - xa)*(yc - ya)) by rw [←cF.out]; exact PIo.sto bO.out aA.out rfl _ _)
   have bQ:=hJ (PIo.new cV.out cN.out)
   have bR:=hJ (show PI x20 aV aW aX aY (yb - ya) by rw [←cF.out]; exact PIo.sto bQ.out aA.out rfl _ _)
   have gE:=hJ (show PI x20 s15 A15 n15 c15 (xc - xa) by rw [←cF.out]; exact PIo.sto fY.out aA.out rfl _ _)
   have bU:=hJ (PIo.new cX.out cN.out)
   have bV:=hJ (show PI x20 bD bE bF bG z5_10 by rw [←cF.out]; exact PIo.sto bU.out aA.out rfl _ _)
   have bJ:=hJ (PIo.new cY.out cN.out)
   have bW:=hJ (show PI x20 aB aC aD aF z6_10 by rw [←cF.out]; exact PIo.sto bJ.out aA.out rfl _ _)
   have bK:=hJ (show Below x1.heap.size x1 x20 by rw [←cF.out]; exact below_sto (bt bH.out cN.out) cQ.out _ _)
   go_wp2_with fail
   clear fZ gA gB gC dY
   go_roundw
   case rel=>exact ⟨4+1,aH,aI,aJ,aK,aL,aM,aN,aO,aR,aS,aT,aU,aV,aW,aX,aY,s15,A15,n15,c15,bD,bE,bF,bG,aB,aC,aD,aF,(xb - xa),(yc - ya),((xb - xa)*(yc - ya)),(yb - ya),(xc - xa),z5_10,z6_10,by omega,by go_num,gD.out,bY.out,bN.out,bP.out,bR.out,gE.out,bV.out,bW.out,hJ (⟨fun _=>rfl,fun _=>rfl,fun _=>rfl,fun _=>rfl,fun _=>rfl,fun h=>absurd h (by decide),fun h=>absurd h (by decide)⟩),bK.out⟩
   case measure=>simp [intOf] <;> omega
  ·(try rw [show ((5:Nat):Int)=5 from rfl])
   obtain rfl:xb - xa=z0_10:=(aG.out.1 (by decide)).symm
   obtain rfl:yc - ya=z1_10:=(aG.out.2.1 (by decide)).symm
   obtain rfl:(xb - xa)*(yc - ya)=z2_10:=(aG.out.2.2.1 (by decide)).symm
   obtain rfl:yb - ya=z3_10:=(aG.out.2.2.2.1 (by decide)).symm
   obtain rfl:xc - xa=z4_10:=(aG.out.2.2.2.2.1 (by decide)).symm
   have hix:∀ wx,(Instr.index 172 (.agg #[.func (.func 126) #[] #[.pointer (some ⟨w.heap.size,0,none⟩),.pointer (some ⟨w.heap.size+3,0,none⟩),.pointer (some ⟨w.heap.size+2,0,none⟩)],.func (.func 127) #[] #[.pointer (some ⟨w.heap.size,0,none⟩),.pointer (some ⟨w.heap.size+4,0,none⟩),.pointer (some ⟨w.heap.size+2,0,none⟩)],.func (.func 128) #[] #[.pointer (some ⟨w.heap.size+1,0,none⟩),.pointer (some ⟨x1.heap.size,0,none⟩)],.func (.func 129) #[] #[.pointer (some ⟨w.heap.size,0,none⟩),.pointer (some ⟨w.heap.size+3,0,none⟩),.pointer (some ⟨w.heap.size+2,0,none⟩)],.func (.func 130) #[] #[.pointer (some ⟨w.heap.size,0,none⟩),.pointer (some ⟨w.heap.size+4,0,none⟩),.pointer (some ⟨w.heap.size+2,0,none⟩)],.func (.func 131) #[] #[.pointer (some ⟨w.heap.size+1,0,none⟩),.pointer (some ⟨x1.heap.size,0,none⟩)],.func (.func 132) #[] #[.pointer (some ⟨w.heap.size,0,none⟩),.pointer (some ⟨x1.heap.size,0,none⟩)]]) (.int .i64 5)).run Tryz.prog wx=.ok (.func (.func 131) #[] #[.pointer (some ⟨w.heap.size+1,0,none⟩),.pointer (some ⟨x1.heap.size,0,none⟩)]) wx:=fun wx=>fx7_5 wx
   have dK:=hJ (BX.new dP.out bH.out)
   go_wp2_with fail
   clear hix
   refine (da6_any (yb - ya) (xc - xa) aH aI aJ aK aL aM aN aO aR aS aT aU aV aW aX aY aZ bA bB bC bD bE bF bG aB aC aD aF (w.heap.size+1) x1.heap.size wl10 dK.out bL.out cV.out cW.out (nk_lim HD.out.2.1) (nk_lim HD.out.2.2) (nk_lim HM.out.2)).mono ?_
   rintro e w21 ⟨s16,A16,n16,c16,rfl,hr16,hb⟩
   have cO:=hJ hb
   have gF:=hJ hr16
   clear hb hr16
   have aA:=hJ (BX.new bL.out cO.out)
   have gG:=aA.out.frozen 10
   have gH:=aA.out.cell 10 rfl
   have gI:=aA.out.frozen 11
   have gJ:=aA.out.cell 11 rfl
   obtain ⟨x22,dZ⟩:=nmz (World.setCell (World.setCell w21 ⟨x1.heap.size,10,none⟩ (.bool s16)) ⟨x1.heap.size,11,none⟩ (.slice A16 n16 c16))
   have cG:=hJ (show sto w21 x1.heap.size 10 [.bool s16,.slice A16 n16 c16]=x22 from dZ)
   have gK:=hJ (show BX 170 x22 x1.heap.size #[.bool aH,.slice aI aJ aK,.bool aL,.slice aM aN aO,.bool aR,.slice aS aT aU,.bool aV,.slice aW aX aY,.bool aZ,.slice bA bB bC,.bool s16,.slice A16 n16 c16,.bool aB,.slice aC aD aF] by rw [←cG.out]; exact BX.put aA.out _ _)
   have bX:=hJ (PIo.new cS.out cO.out)
   have bY:=hJ (show PI x22 aH aI aJ aK (xb - xa) by rw [←cG.out]; exact PIo.sto bX.out aA.out rfl _ _)
   have bM:=hJ (PIo.new cT.out cO.out)
   have bN:=hJ (show PI x22 aL aM aN aO (yc - ya) by rw [←cG.out]; exact PIo.sto bM.out aA.out rfl _ _)
   have bO:=hJ (PIo.new cU.out cO.out)
   have bP:=hJ (show PI x22 aR aS aT aU ((xb - xa)*(yc - ya)) by rw [←cG.out]; exact PIo.sto bO.out aA.out rfl _ _)
   have bQ:=hJ (PIo.new cV.out cO.out)
   have bR:=hJ (show PI x22 aV aW aX aY (yb - ya) by rw [←cG.out]; exact PIo.sto bQ.out aA.out rfl _ _)
   have bS:=hJ (PIo.new cW.out cO.out)
   have bT:=hJ (show PI x22 aZ bA bB bC (xc - xa) by rw [←cG.out]; exact PIo.sto bS.out aA.out rfl _ _)
   have gL:=hJ (show PI x22 s16 A16 n16 c16 ((yb - ya)*(xc - xa)) by rw [←cG.out]; exact PIo.sto gF.out aA.out rfl _ _)
   have bJ:=hJ (PIo.new cY.out cO.out)
   have bW:=hJ (show PI x22 aB aC aD aF z6_10 by rw [←cG.out]; exact PIo.sto bJ.out aA.out rfl _ _)
   have bK:=hJ (show Below x1.heap.size x1 x22 by rw [←cG.out]; exact below_sto (bt bH.out cO.out) cQ.out _ _)
   go_wp2_with fail
   clear gG gH gI gJ dZ
   go_roundw
   case rel=>exact ⟨5+1,aH,aI,aJ,aK,aL,aM,aN,aO,aR,aS,aT,aU,aV,aW,aX,aY,aZ,bA,bB,bC,s16,A16,n16,c16,aB,aC,aD,aF,(xb - xa),(yc - ya),((xb - xa)*(yc - ya)),(yb - ya),(xc - xa),((yb - ya)*(xc - xa)),z6_10,by omega,by go_num,gK.out,bY.out,bN.out,bP.out,bR.out,bT.out,gL.out,bW.out,hJ (⟨fun _=>rfl,fun _=>rfl,fun _=>rfl,fun _=>rfl,fun _=>rfl,fun _=>rfl,fun h=>absurd h (by decide)⟩),bK.out⟩
   case measure=>simp [intOf] <;> omega
  ·(try rw [show ((6:Nat):Int)=6 from rfl])
   obtain rfl:xb - xa=z0_10:=(aG.out.1 (by decide)).symm
   obtain rfl:yc - ya=z1_10:=(aG.out.2.1 (by decide)).symm
   obtain rfl:(xb - xa)*(yc - ya)=z2_10:=(aG.out.2.2.1 (by decide)).symm
   obtain rfl:yb - ya=z3_10:=(aG.out.2.2.2.1 (by decide)).symm
   obtain rfl:xc - xa=z4_10:=(aG.out.2.2.2.2.1 (by decide)).symm
   obtain rfl:(yb - ya)*(xc - xa)=z5_10:=(aG.out.2.2.2.2.2.1 (by decide)).symm
   have hix:∀ wx,(Instr.index 172 (.agg #[.func (.func 126) #[] #[.pointer (some ⟨w.heap.size,0,none⟩),.pointer (some ⟨w.heap.size+3,0,none⟩),.pointer (some ⟨w.heap.size+2,0,none⟩)],.func (.func 127) #[] #[.pointer (some ⟨w.heap.size,0,none⟩),.pointer (some ⟨w.heap.size+4,0,none⟩),.pointer (some ⟨w.heap.size+2,0,none⟩)],.func (.func 128) #[] #[.pointer (some ⟨w.heap.size+1,0,none⟩),.pointer (some ⟨x1.heap.size,0,none⟩)],.func (.func 129) #[] #[.pointer (some ⟨w.heap.size,0,none⟩),.pointer (some ⟨w.heap.size+3,0,none⟩),.pointer (some ⟨w.heap.size+2,0,none⟩)],.func (.func 130) #[] #[.pointer (some ⟨w.heap.size,0,none⟩),.pointer (some ⟨w.heap.size+4,0,none⟩),.pointer (some ⟨w.heap.size+2,0,none⟩)],.func (.func 131) #[] #[.pointer (some ⟨w.heap.size+1,0,none⟩),.pointer (some ⟨x1.heap.size,0,none⟩)],.func (.func 132) #[] #[.pointer (some ⟨w.heap.size,0,none⟩),.pointer (some ⟨x1.heap.size,0,none⟩)]]) (.int .i64 6)).run Tryz.prog wx=.ok (.func (.func 132) #[] #[.pointer (some ⟨w.heap.size,0,none⟩),.pointer (some ⟨x1.heap.size,0,none⟩)]) wx:=fun wx=>fx7_6 wx
   have cA:=hJ (BX.new dB.out bH.out)
   go_wp2_with fail
   clear hix
   refine (da7_any ((xb - xa)*(yc - ya)) ((yb - ya)*(xc - xa)) aH aI aJ aK aL aM aN aO aR aS aT aU aV aW aX aY aZ bA bB bC bD bE bF bG aB aC aD aF w.heap.size x1.heap.size wl10 cA.out bL.out cU.out cX.out (nk_lim HM.out.1) (nk_lim HM.out.2) (nk_lim (nk_sub HM.out.1 HM.out.2))).mono ?_
   rintro e w23 ⟨s17,A17,n17,c17,rfl,hr17,hb⟩
   have cP:=hJ hb
   have gM:=hJ hr17
   clear hb hr17
   have aA:=hJ (BX.new bL.out cP.out)
   have gN:=aA.out.frozen 12
   have gO:=aA.out.cell 12 rfl
   have gP:=aA.out.frozen 13
   have gQ:=aA.out.cell 13 rfl
   obtain ⟨x24,eA⟩:=nmz (World.setCell (World.setCell w23 ⟨x1.heap.size,12,none⟩ (.bool s17)) ⟨x1.heap.size,13,none⟩ (.slice A17 n17 c17))
   have cH:=hJ (show sto w23 x1.heap.size 12 [.bool s17,.slice A17 n17 c17]=x24 from eA)
   have gR:=hJ (show BX 170 x24 x1.heap.size #[.bool aH,.slice aI aJ aK,.bool aL,.slice aM aN aO,.bool aR,.slice aS aT aU,.bool aV,.slice aW aX aY,.bool aZ,.slice bA bB bC,.bool bD,.slice bE bF bG,.bool s17,.slice A17 n17 c17] by rw [←cH.out]; exact BX.put aA.out _ _)
   have bX:=hJ (PIo.new cS.out cP.out)
   have bY:=hJ (show PI x24 aH aI aJ aK (xb - xa) by rw [←cH.out]; exact PIo.sto bX.out aA.out rfl _ _)
   have bM:=hJ (PIo.new cT.out cP.out)
   have bN:=hJ (show PI x24 aL aM aN aO (yc - ya) by rw [←cH.out]; exact PIo.sto bM.out aA.out rfl _ _)
   have bO:=hJ (PIo.new cU.out cP.out)
   have bP:=hJ (show PI x24 aR aS aT aU ((xb - xa)*(yc - ya)) by rw [←cH.out]; exact PIo.sto bO.out aA.out rfl _ _)
   have bQ:=hJ (PIo.new cV.out cP.out)
   have bR:=hJ (show PI x24 aV aW aX aY (yb - ya) by rw [←cH.out]; exact PIo.sto bQ.out aA.out rfl _ _)
   have bS:=hJ (PIo.new cW.out cP.out)
   have bT:=hJ (show PI x24 aZ bA bB bC (xc - xa) by rw [←cH.out]; exact PIo.sto bS.out aA.out rfl _ _)
   have bU:=hJ (PIo.new cX.out cP.out)
   have bV:=hJ (show PI x24 bD bE bF bG ((yb - ya)*(xc - xa)) by rw [←cH.out]; exact PIo.sto bU.out aA.out rfl _ _)
   have gS:=hJ (show PI x24 s17 A17 n17 c17 (((xb - xa)*(yc - ya)) - ((yb - ya)*(xc - xa))) by rw [←cH.out]; exact PIo.sto gM.out aA.out rfl _ _)
   have bK:=hJ (show Below x1.heap.size x1 x24 by rw [←cH.out]; exact below_sto (bt bH.out cP.out) cQ.out _ _)
   go_wp2_with fail
   clear gN gO gP gQ eA
   go_roundw
   case rel=>exact ⟨6+1,aH,aI,aJ,aK,aL,aM,aN,aO,aR,aS,aT,aU,aV,aW,aX,aY,aZ,bA,bB,bC,bD,bE,bF,bG,s17,A17,n17,c17,(xb - xa),(yc - ya),((xb - xa)*(yc - ya)),(yb - ya),(xc - xa),((yb - ya)*(xc - xa)),(((xb - xa)*(yc - ya)) - ((yb - ya)*(xc - xa))),by omega,by go_num,gR.out,bY.out,bN.out,bP.out,bR.out,bT.out,bV.out,gS.out,hJ (⟨fun _=>rfl,fun _=>rfl,fun _=>rfl,fun _=>rfl,fun _=>rfl,fun _=>rfl,fun _=>rfl⟩),bK.out⟩
   case measure=>simp [intOf] <;> omega
  ·(try rw [show ((7:Nat):Int)=7 from rfl])
   obtain rfl:xb - xa=z0_10:=(aG.out.1 (by decide)).symm
   obtain rfl:yc - ya=z1_10:=(aG.out.2.1 (by decide)).symm
   obtain rfl:(xb - xa)*(yc - ya)=z2_10:=(aG.out.2.2.1 (by decide)).symm
   obtain rfl:yb - ya=z3_10:=(aG.out.2.2.2.1 (by decide)).symm
   obtain rfl:xc - xa=z4_10:=(aG.out.2.2.2.2.1 (by decide)).symm
   obtain rfl:(yb - ya)*(xc - xa)=z5_10:=(aG.out.2.2.2.2.2.1 (by decide)).symm
   obtain rfl:((xb - xa)*(yc - ya)) - ((yb - ya)*(xc - xa))=z6_10:=(aG.out.2.2.2.2.2.2 (by decide)).symm
   obtain ⟨gT,gU⟩:=bL.out.c2 12 13 rfl rfl
   have dA:=hJ (BX.new eH.out bH.out)
   have gV:=dA.out.frozen 0
   have gW:=dA.out.cell 0 rfl
   have gX:=dA.out.frozen 1
   have gY:=dA.out.cell 1 rfl
   obtain ⟨x27,eB⟩:=nmz (World.setCell (World.setCell wl10 ⟨w.heap.size+5,0,none⟩ (.bool aB)) ⟨w.heap.size+5,1,none⟩ (.slice aC aD aF))
   have dL:=hJ (show sto wl10 (w.heap.size+5) 0 [.bool aB,.slice aC aD aF]=x27 from eB)
   have gZ:=hJ (show BX 25 x27 (w.heap.size+5) #[.bool aB,.slice aC aD aF] by rw [←dL.out]; exact BX.put dA.out _ _)
   have hA:=hJ (show Below w.heap.size w x27 by rw [←dL.out]; exact below_sto bZ.out eI.out _ _)
   have bJ:=hJ (show PI x27 aB aC aD aF (((xb - xa)*(yc - ya)) - ((yb - ya)*(xc - xa))) by rw [←dL.out]; exact PIo.sto cY.out dA.out rfl _ _)
   go_wp2
   clear gT gU gV gW gX gY eB
   exact bodyPost_ret (results_cell1 rfl _ _ _ _ _ _ _ rfl gZ.out Tryz.underlying25 rfl W_size) rfl ⟨aB,aC,aD,aF,rfl,bJ.out,hA.out⟩
/-- The error and the value of Circle. -/
def crE (ax ay bx by' cx cy dx dy:Int):Int:=if fsE vdP [(ax,ay),(bx,by'),(cx,cy),(dx,dy)]=0 then (if sdV ax ay bx by' cx cy=0 then 1 else 0) else fsE vdP [(ax,ay),(bx,by'),(cx,cy),(dx,dy)]
def crV (ax ay bx by' cx cy dx dy:Int):Int:=if fsE vdP [(ax,ay),(bx,by'),(cx,cy),(dx,dy)]=0 then ciV ax ay bx by' cx cy dx dy else 0
theorem cr_flat {ax ay bx by' cx cy dx dy:Int} (h:fsE vdP [(ax,ay),(bx,by'),(cx,cy),(dx,dy)]=0) (h0:sdV ax ay bx by' cx cy=0):crV ax ay bx by' cx cy dx dy=0∧crE ax ay bx by' cx cy dx dy=1 :=
 ⟨by rw [crV,if_pos h,ciV,h0,Int.zero_mul],by rw [crE,if_pos h,if_pos h0]⟩
theorem cr_round {ax ay bx by' cx cy dx dy sd:Int} (h:fsE vdP [(ax,ay),(bx,by'),(cx,cy),(dx,dy)]=0) (hs:sdV ax ay bx by' cx cy=sd) (h0:sd≠0):crV ax ay bx by' cx cy dx dy=sd*cmpI (arV ax ay bx by' cx cy dx dy) 0∧crE ax ay bx by' cx cy dx dy=0 :=
 ⟨by rw [crV,if_pos h,ciV,hs],by rw [crE,if_pos h,if_neg (by rw [hs]; exact h0)]⟩
theorem ah_nk {ax ay bx by' px py:Int} (ha:Nk 1073741824 ax∧Nk 1073741824 ay) (hb:Nk 1073741824 bx∧Nk 1073741824 by') (hp:Nk 1073741824 px∧Nk 1073741824 py):Nk 9223372036854775808 (ahV ax ay bx by' px py)∧Nk 9223372036854775808 (lfV ax ay bx by' px py) :=
 ⟨nk_add (nk_mul (nk_diff ha.1 hp.1) (nk_diff hb.1 hp.1)) (nk_mul (nk_diff ha.2 hp.2) (nk_diff hb.2 hp.2)),nk_sub (nk_mul (nk_diff ha.1 hp.1) (nk_diff hb.2 hp.2)) (nk_mul (nk_diff ha.2 hp.2) (nk_diff hb.1 hp.1))⟩
theorem ar_nk {ax ay bx by' cx cy dx dy:Int} (h:(Nk 1073741824 ax∧Nk 1073741824 ay)∧(Nk 1073741824 bx∧Nk 1073741824 by')∧(Nk 1073741824 cx∧Nk 1073741824 cy)∧(Nk 1073741824 dx∧Nk 1073741824 dy)) :
  Nk 1180591620717411303424 0∧Nk 1180591620717411303424 0∧Nk 1180591620717411303424 (ahV ax ay bx by' cx cy)∧Nk 1180591620717411303424 (lfV ax ay bx by' cx cy)∧Nk 1180591620717411303424 (ahV ax ay bx by' dx dy)∧Nk 1180591620717411303424 (lfV ax ay bx by' dx dy):=by
 have h1:=ah_nk h.1 h.2.1 h.2.2.1
 have h2:=ah_nk h.1 h.2.1 h.2.2.2
 exact ⟨by unfold Nk; omega,by unfold Nk; omega,nk_le h1.1 (by decide),nk_le h1.2 (by decide),nk_le h2.1 (by decide),nk_le h2.2 (by decide)⟩
theorem ar_lim {ax ay bx by' cx cy dx dy:Int} (h:(Nk 1073741824 ax∧Nk 1073741824 ay)∧(Nk 1073741824 bx∧Nk 1073741824 by')∧(Nk 1073741824 cx∧Nk 1073741824 cy)∧(Nk 1073741824 dx∧Nk 1073741824 dy)):(arV ax ay bx by' cx cy dx dy).natAbs < lim:=by
 have h1:=ah_nk h.1 h.2.1 h.2.2.1
 have h2:=ah_nk h.1 h.2.1 h.2.2.2
 exact nk_lim (nk_sub (nk_mul h1.1 h2.2) (nk_mul h1.2 h2.1))
theorem ar_zero {p q r s:Int}:(p - 0)*(q - 0) - (r - 0)*(s - 0)=p*q - r*s:=by simp only [Int.sub_zero]
theorem cm_bound (a b:Int):cmpI a b = -1∨cmpI a b=0∨cmpI a b=1:=by
 rcases cmpI_is a b with ⟨_,h⟩ | ⟨_,h⟩ | ⟨_,h⟩
 ·exact .inl h
 ·exact .inr (.inl h)
 ·exact .inr (.inr h)
theorem sg_prod (a b c d:Int):I6 (cmpI a b*cmpI c d):=by
 rcases cm_bound a b with h | h | h <;> rcases cm_bound c d with g | g | g <;> rw [h,g] <;> exact ⟨by decide,by decide⟩
theorem circle_any (ax ay bx by' cx cy dx dy:Int) (w:World) :
  Calls Tryz.prog 37 #[.agg #[.int .i64 ax,.int .i64 ay],.agg #[.int .i64 bx,.int .i64 by'],.agg #[.int .i64 cx,.int .i64 cy],.agg #[.int .i64 dx,.int .i64 dy]] w fun e w'=>e=.returned (.tuple #[.int .i64 (crV ax ay bx by' cx cy dx dy),.int .i64 (crE ax ay bx by' cx cy dx dy)])∧Below w.heap.size w w':=by
 obtain ⟨E,hE⟩:=nmz (fsE vdP [(ax,ay),(bx,by'),(cx,cy),(dx,dy)])
 have HE:=hJ hE
 clear hE
 obtain ⟨sd,hsd⟩:=nmz (sdV ax ay bx by' cx cy)
 have HS:=hJ hsd
 clear hsd
 have cQ:=hJ (PI.zero w)
 obtain ⟨x1,aL⟩:=nmz ((((w.alloc (.cells #[.int .i64 ax,.int .i64 ay] 71)).alloc (.cells #[.int .i64 bx,.int .i64 by'] 71)).alloc (.cells #[.int .i64 cx,.int .i64 cy] 71)).alloc (.cells #[.int .i64 dx,.int .i64 dy] 71))
 have bC:=hJ (show Below w.heap.size w x1 by rw [←aL]; exact (((((Below.refl _ _).alloc (Nat.le_refl _) _).alloc (by simp only [World.size_alloc]; omega) _).alloc (by simp only [World.size_alloc]; omega) _).alloc (by simp only [World.size_alloc]; omega) _))
 have bN:=hJ (show BX 71 x1 w.heap.size #[.int .i64 ax,.int .i64 ay] by rw [←aL]; exact ((((BX.at rfl).alloc _).alloc _).alloc _))
 have bO:=hJ (show BX 71 x1 (w.heap.size+1) #[.int .i64 bx,.int .i64 by'] by rw [←aL]; exact (((BX.at (by simp only [World.size_alloc])).alloc _).alloc _))
 have bP:=hJ (show BX 71 x1 (w.heap.size+2) #[.int .i64 cx,.int .i64 cy] by rw [←aL]; exact ((BX.at (by simp only [World.size_alloc])).alloc _))
 have bQ:=hJ (show BX 71 x1 (w.heap.size+3) #[.int .i64 dx,.int .i64 dy] by rw [←aL]; exact (BX.at (by simp only [World.size_alloc])))
 obtain ⟨cR,cS⟩:=bN.out.c2 0 1 rfl rfl
 obtain ⟨cT,cU⟩:=bO.out.c2 0 1 rfl rfl
 obtain ⟨cV,cW⟩:=bP.out.c2 0 1 rfl rfl
 obtain ⟨cX,cY⟩:=bQ.out.c2 0 1 rfl rfl
 obtain ⟨x10,bD⟩:=nmz (x1.alloc (.cells #[.int .i64 ax,.int .i64 ay,.int .i64 bx,.int .i64 by',.int .i64 cx,.int .i64 cy,.int .i64 dx,.int .i64 dy] 71))
 have aS:=hJ (show Below x1.heap.size x1 x10 by rw [←bD]; exact ((Below.refl _ _).alloc (Nat.le_refl _) _))
 have cZ:=hJ (show BX 71 x10 x1.heap.size #[.int .i64 ax,.int .i64 ay,.int .i64 bx,.int .i64 by',.int .i64 cx,.int .i64 cy,.int .i64 dx,.int .i64 dy] by rw [←bD]; exact (BX.at rfl))
 go_enter Tryz.func37,Tryz.ntmps37
 go_wp2_with fail
 clear aL cR cS cT cU cV cW cX cY bD
 refine (valids_any [(ax,ay),(bx,by'),(cx,cy),(dx,dy)] 4 x1.heap.size x10 rfl (by decide) cZ.out).mono ?_
 rw [show fsE vdP [(ax,ay),(bx,by'),(cx,cy),(dx,dy)]=E from HE.out]
 rintro e w11 ⟨rfl,hb⟩
 have aT:=hJ hb
 clear hb
 by_cases hE0:E=0
 ·subst hE0
  have H4:=hJ (And.intro (vd_nk (fs_cons HE.out).1) (And.intro (vd_nk (fs_cons (fs_cons HE.out).2).1) (And.intro (vd_nk (fs_two (fs_cons (fs_cons HE.out).2).2).1) (vd_nk (fs_two (fs_cons (fs_cons HE.out).2).2).2))))
  have aU:=hJ (bt aS.out aT.out)
  have bR:=hJ (BX.new bN.out aU.out)
  obtain ⟨dA,dB⟩:=bR.out.c2 0 1 rfl rfl
  have bS:=hJ (BX.new bO.out aU.out)
  obtain ⟨dD,dE⟩:=bS.out.c2 0 1 rfl rfl
  have bT:=hJ (BX.new bP.out aU.out)
  obtain ⟨dF,dG⟩:=bT.out.c2 0 1 rfl rfl
  go_wp2_with fail
  clear dA dB dD dE dF dG
  refine (gridside_any ax ay bx by' cx cy w11 (g3_ok H4.out.1 H4.out.2.1 H4.out.2.2.1)).mono ?_
  rw [HS.out]
  rintro e w18 ⟨rfl,hb⟩
  have aM:=hJ hb
  clear hb
  by_cases hs0:sd=0
  ·subst hs0
   have HV:=hJ (show crV ax ay bx by' cx cy dx dy=0∧crE ax ay bx by' cx cy dx dy=1 from cr_flat HE.out HS.out)
   have aV:=hJ (bt (bt (bt bC.out aS.out) aT.out) aM.out)
   go_wp2
   go_ret2
   exact ⟨by rw [HV.out.1,HV.out.2] <;> rfl,aV.out⟩
  have hsz:(sd == 0)=false:=by simp [hs0]
  have HV:=hJ (show crV ax ay bx by' cx cy dx dy=sd*cmpI (arV ax ay bx by' cx cy dx dy) 0∧crE ax ay bx by' cx cy dx dy=0 from cr_round HE.out HS.out hs0)
  clear hs0
  have bU:=hJ (BX.new bR.out aM.out)
  have bV:=hJ (BX.new bS.out aM.out)
  have bW:=hJ (BX.new bT.out aM.out)
  have dH:=hJ (bt aU.out aM.out)
  have bX:=hJ (BX.new bQ.out dH.out)
  have aC:Hid (∀ w',Below w18.heap.size w18 w'→(fun w':World=>w'.cell? ⟨w.heap.size,0,none⟩=some (.int .i64 ax)∧w'.cell? ⟨w.heap.size,1,none⟩=some (.int .i64 ay)∧w'.cell? ⟨w.heap.size+1,0,none⟩=some (.int .i64 bx)∧w'.cell? ⟨w.heap.size+1,1,none⟩=some (.int .i64 by')∧w'.cell? ⟨w.heap.size+2,0,none⟩=some (.int .i64 cx)∧w'.cell? ⟨w.heap.size+2,1,none⟩=some (.int .i64 cy)∧w'.cell? ⟨w.heap.size+3,0,none⟩=some (.int .i64 dx)∧w'.cell? ⟨w.heap.size+3,1,none⟩=some (.int .i64 dy)∧Below w18.heap.size w18 w') w'):=hJ (fun w' hb=>⟨(BX.new bU.out hb).cell 0 rfl,(BX.new bU.out hb).cell 1 rfl,(BX.new bV.out hb).cell 0 rfl,(BX.new bV.out hb).cell 1 rfl,(BX.new bW.out hb).cell 0 rfl,(BX.new bW.out hb).cell 1 rfl,(BX.new bX.out hb).cell 0 rfl,(BX.new bX.out hb).cell 1 rfl,hb⟩)
  have aV:=hJ (bt (bt (bt bC.out aS.out) aT.out) aM.out)
  have aW:=hJ (PIo.new cQ.out aV.out)
  go_wp2_with fail
  obtain ⟨v19,hv19⟩:=nmz (World.drew w18)
  have bE:=hJ (show Below w18.heap.size w18 v19 by rw [←hv19]; exact (Below.refl _ _).drew)
  refine whd aC hv19 (fun hHeld=>?_)
  clear hv19
  refine tq 0 ?_
  refine tq 1 ?_
  refine tq 2 ?_
  refine tq 3 ?_
  refine tq 5 ?_
  refine tq 6 ?_
  refine tq 7 ?_
  try simp only [PT]
  refine wpAnyH_name (fun F hF a0 ha0 L0 hL0=>?_)
  have aX:∀ (s11:Bool) (A11:Option Addr) (n11:Nat) (c11:Nat) (s12:Bool) (A12:Option Addr) (n12:Nat) (c12:Nat) (s13:Bool) (A13:Option Addr) (n13:Nat) (c13:Nat) (s14:Bool) (A14:Option Addr) (n14:Nat) (c14:Nat) (s15:Bool) (A15:Option Addr) (n15:Nat) (c15:Nat) (aA:Nat) (v:World),Hid (Below w18.heap.size w18 v)→Hid (PI v s11 A11 n11 c11 (ahV ax ay bx by' cx cy))→Hid (PI v s12 A12 n12 c12 (lfV ax ay bx by' cx cy))→Hid (PI v s13 A13 n13 c13 (ahV ax ay bx by' dx dy))→Hid (PI v s14 A14 n14 c14 (lfV ax ay bx by' dx dy))→Hid (PI v s15 A15 n15 c15 (arV ax ay bx by' cx cy dx dy))→Hid (BX 25 v aA #[.bool false,.slice none 0 0])→Hid (w18.heap.size≤aA)→F 2 (Array.setIfInBounds (Array.setIfInBounds (Array.setIfInBounds (Array.setIfInBounds (Array.setIfInBounds (Array.setIfInBounds (Array.setIfInBounds L0 4 true) 8 true) 9 true) 13 true) 10 true) 11 true) 12 true) (Act.put (Act.put (Act.put (Act.put (Act.put (Act.put (Act.put a0 (some 34) (.agg #[.bool s11,.slice A11 n11 c11,.bool s12,.slice A12 n12 c12])) (some 38) (.agg #[.bool s13,.slice A13 n13 c13,.bool s14,.slice A14 n14 c14])) (some 39) (.tuple #[.agg #[.bool s15,.slice A15 n15 c15],.int .i64 0])) (some 12) (.pointer (some ⟨aA,0,none⟩))) (some 29) (.tuple #[.agg #[.bool s15,.slice A15 n15 c15],.int .i64 0])) (some 40) (.agg #[.bool s15,.slice A15 n15 c15])) (some 41) (.int .i64 0)) v:=by
   intro s11 A11 n11 c11 s12 A12 n12 c12 s13 A13 n13 c13 s14 A14 n14 c14 s15 A15 n15 c15 aA v aB aD aF aH aI bF aG aJ
   subst hF ha0 hL0
   simp only [PT] at  ⊢
   have hHeld:=aC.out _ aB.out
   refine ryy [14] ?_
   refine .cons rfl (fun K hK=>?_) .nil
   have z20_0:=aG.out.cell 0 rfl
   have y20_0:=aG.out.frozen 0
   have z20_1:=aG.out.cell 1 rfl
   have y20_1:=aG.out.frozen 1
   have z20:=aG.out.lt
   go_simp
   obtain ⟨v20,hV⟩:=nmz (World.setCell (World.setCell v ⟨aA,0,none⟩ (.bool s15)) ⟨aA,1,none⟩ (.slice A15 n15 c15))
   rw [hV]
   have bG:=hJ (show sto v aA 0 [.bool s15,.slice A15 n15 c15]=v20 from hV)
   clear hV z20 z20_0 y20_0 z20_1 y20_1
   have bY:=hJ (show Below w18.heap.size w18 v20 by rw [←bG.out]; exact below_sto aB.out aJ.out _ _)
   have bZ:=hJ (show PI v20 s15 A15 n15 c15 (arV ax ay bx by' cx cy dx dy) by rw [←bG.out]; exact PIo.sto bF.out aG.out rfl _ _)
   have dI:=hJ (show BX 25 v20 aA #[.bool s15,.slice A15 n15 c15] by rw [←bG.out]; exact BX.put aG.out _ _)
   clear hHeld
   refine hK.out _ _ (aC.out _ bY.out) (fun hHeld=>?_)
   clear hK K
   refine tq 15 ?_
   try simp only [PT]
   refine wpAnyH_done (by kernel_rfl) ?_ _
   clear hHeld
   obtain ⟨sg,hsg⟩:=nmz (cmpI (arV ax ay bx by' cx cy dx dy) 0)
   have HG:=hJ hsg
   have dJ:=hJ (show I6 (sd*sg) by rw [←hsg,←HS.out]; exact sg_prod _ _ _ _)
   clear hsg
   obtain ⟨dK,dL⟩:=dI.out.c2 0 1 rfl rfl
   go_wp2_with fail
   clear dK dL
   refine (sign_any (arV ax ay bx by' cx cy dx dy) s15 A15 n15 c15 v20 bZ.out (Nat.le_trans (plim bZ.out (ar_lim H4.out)) (by decide))).mono ?_
   rw [HG.out]
   rintro e w24 ⟨rfl,hb⟩
   have dM:=hJ hb
   clear hb
   have dN:IntKind.i64.wrap (sd*sg)=sd*sg:=i6_wrap dJ.out
   have dO:=hJ (bt (bt aV.out bY.out) dM.out)
   go_wp2
   clear dN
   go_ret2
   exact ⟨by rw [HV.out.1,HV.out.2,HG.out] <;> rfl,dO.out⟩
  have cA:∀ (s11:Bool) (A11:Option Addr) (n11:Nat) (c11:Nat) (s12:Bool) (A12:Option Addr) (n12:Nat) (c12:Nat) (s13:Bool) (A13:Option Addr) (n13:Nat) (c13:Nat) (s14:Bool) (A14:Option Addr) (n14:Nat) (c14:Nat) (s15:Bool) (A15:Option Addr) (n15:Nat) (c15:Nat) (v:World),Hid (Below w18.heap.size w18 v)→Hid (PI v s11 A11 n11 c11 (ahV ax ay bx by' cx cy))→Hid (PI v s12 A12 n12 c12 (lfV ax ay bx by' cx cy))→Hid (PI v s13 A13 n13 c13 (ahV ax ay bx by' dx dy))→Hid (PI v s14 A14 n14 c14 (lfV ax ay bx by' dx dy))→Hid (PI v s15 A15 n15 c15 (arV ax ay bx by' cx cy dx dy))→F 3 (Array.setIfInBounds (Array.setIfInBounds (Array.setIfInBounds (Array.setIfInBounds (Array.setIfInBounds (Array.setIfInBounds L0 4 true) 8 true) 9 true) 10 true) 11 true) 12 true) (Act.put (Act.put (Act.put (Act.put (Act.put (Act.put a0 (some 34) (.agg #[.bool s11,.slice A11 n11 c11,.bool s12,.slice A12 n12 c12])) (some 38) (.agg #[.bool s13,.slice A13 n13 c13,.bool s14,.slice A14 n14 c14])) (some 39) (.tuple #[.agg #[.bool s15,.slice A15 n15 c15],.int .i64 0])) (some 29) (.tuple #[.agg #[.bool s15,.slice A15 n15 c15],.int .i64 0])) (some 40) (.agg #[.bool s15,.slice A15 n15 c15])) (some 41) (.int .i64 0)) v:=by
   intro s11 A11 n11 c11 s12 A12 n12 c12 s13 A13 n13 c13 s14 A14 n14 c14 s15 A15 n15 c15 v aB aD aF aH aI bF
   subst hF ha0 hL0
   simp only [PT] at aX ⊢
   have hHeld:=aC.out _ aB.out
   refine ryy [13] ?_
   refine .cons rfl (fun K hK=>?_) .nil
   go_simp
   have aK:=hJ ((Below.refl v.heap.size v).alloc (Nat.le_refl _) (.cells #[.bool false,.slice none 0 0] 25))
   have bH:=hJ (BX.lit v 25 #[.bool false,.slice none 0 0])
   obtain ⟨v25,hV⟩:=nmz (World.alloc v (.cells #[.bool false,.slice none 0 0] 25))
   obtain ⟨aA,hg⟩:=nmz (v.heap.size)
   rw [hV] at aK bH ⊢
   rw [hg] at bH ⊢
   have dP:=hJ (show w18.heap.size≤aA by rw [←hg]; exact aB.out.size)
   clear hV hg
   have cB:=hJ (bt aB.out aK.out)
   have dQ:=hJ (PIo.new aD.out aK.out)
   have dR:=hJ (PIo.new aF.out aK.out)
   have dS:=hJ (PIo.new aH.out aK.out)
   have dT:=hJ (PIo.new aI.out aK.out)
   have dU:=hJ (PIo.new bF.out aK.out)
   clear hHeld
   refine hK.out _ _ (aC.out _ cB.out) (fun hHeld=>?_)
   clear hK K
   try simp only [PT]
   exact wpAnyH_cast (by kernel_rfl) (aX s11 A11 n11 c11 s12 A12 n12 c12 s13 A13 n13 c13 s14 A14 n14 c14 s15 A15 n15 c15 aA v25 cB dQ dR dS dT dU bH dP)
  have aY:∀ (s11:Bool) (A11:Option Addr) (n11:Nat) (c11:Nat) (s12:Bool) (A12:Option Addr) (n12:Nat) (c12:Nat) (s13:Bool) (A13:Option Addr) (n13:Nat) (c13:Nat) (s14:Bool) (A14:Option Addr) (n14:Nat) (c14:Nat) (aA:Nat) (v:World),Hid (Below w18.heap.size w18 v)→Hid (PI v s11 A11 n11 c11 (ahV ax ay bx by' cx cy))→Hid (PI v s12 A12 n12 c12 (lfV ax ay bx by' cx cy))→Hid (PI v s13 A13 n13 c13 (ahV ax ay bx by' dx dy))→Hid (PI v s14 A14 n14 c14 (lfV ax ay bx by' dx dy))→Hid (BX 25 v aA #[.bool false,.slice none 0 0])→Hid (w18.heap.size≤aA)→F 6 (Array.setIfInBounds (Array.setIfInBounds (Array.setIfInBounds L0 4 true) 8 true) 13 true) (Act.put (Act.put (Act.put a0 (some 34) (.agg #[.bool s11,.slice A11 n11 c11,.bool s12,.slice A12 n12 c12])) (some 38) (.agg #[.bool s13,.slice A13 n13 c13,.bool s14,.slice A14 n14 c14])) (some 12) (.pointer (some ⟨aA,0,none⟩))) v:=by
   intro s11 A11 n11 c11 s12 A12 n12 c12 s13 A13 n13 c13 s14 A14 n14 c14 aA v aB aD aF aH aI aG aJ
   subst hF ha0 hL0
   simp only [PT] at aX ⊢
   have hHeld:=aC.out _ aB.out
   refine ryy [9] ?_
   refine .cons rfl (fun K hK=>?_) .nil
   go_simp
   go_at_call 86
   refine (darea_any 0 0 (ahV ax ay bx by' cx cy) (lfV ax ay bx by' cx cy) (ahV ax ay bx by' dx dy) (lfV ax ay bx by' dx dy) false none 0 0 false none 0 0 s11 A11 n11 c11 s12 A12 n12 c12 s13 A13 n13 c13 s14 A14 n14 c14 v (PIo.new aW.out aB.out) (PIo.new aW.out aB.out) aD.out aF.out aH.out aI.out (ar_nk H4.out)).mono ?_
   rw [ar_zero]
   rintro e v26 ⟨s15,A15,n15,c15,rfl,hr15,hb⟩
   have aN:=hJ hb
   have dW:=hJ hr15
   clear hb hr15
   go_wp2_with fail
   have cC:=hJ (bt aB.out aN.out)
   have dX:=hJ (PIo.new aD.out aN.out)
   have dY:=hJ (PIo.new aF.out aN.out)
   have dZ:=hJ (PIo.new aH.out aN.out)
   have eA:=hJ (PIo.new aI.out aN.out)
   have eB:=hJ (BX.new aG.out aN.out)
   clear hHeld
   refine hK.out _ _ (aC.out _ cC.out) (fun hHeld=>?_)
   clear hK K
   refine tq 10 ?_
   refine tq 11 ?_
   refine tq 12 ?_
   try simp only [PT]
   exact wpAnyH_cast (by kernel_rfl) (aX s11 A11 n11 c11 s12 A12 n12 c12 s13 A13 n13 c13 s14 A14 n14 c14 s15 A15 n15 c15 aA v26 cC dX dY dZ eA dW eB aJ)
  have cD:∀ (s11:Bool) (A11:Option Addr) (n11:Nat) (c11:Nat) (s12:Bool) (A12:Option Addr) (n12:Nat) (c12:Nat) (s13:Bool) (A13:Option Addr) (n13:Nat) (c13:Nat) (s14:Bool) (A14:Option Addr) (n14:Nat) (c14:Nat) (v:World),Hid (Below w18.heap.size w18 v)→Hid (PI v s11 A11 n11 c11 (ahV ax ay bx by' cx cy))→Hid (PI v s12 A12 n12 c12 (lfV ax ay bx by' cx cy))→Hid (PI v s13 A13 n13 c13 (ahV ax ay bx by' dx dy))→Hid (PI v s14 A14 n14 c14 (lfV ax ay bx by' dx dy))→F 7 (Array.setIfInBounds (Array.setIfInBounds L0 4 true) 8 true) (Act.put (Act.put a0 (some 34) (.agg #[.bool s11,.slice A11 n11 c11,.bool s12,.slice A12 n12 c12])) (some 38) (.agg #[.bool s13,.slice A13 n13 c13,.bool s14,.slice A14 n14 c14])) v:=by
   intro s11 A11 n11 c11 s12 A12 n12 c12 s13 A13 n13 c13 s14 A14 n14 c14 v aB aD aF aH aI
   subst hF ha0 hL0
   simp only [PT] at cA aY ⊢
   have hHeld:=aC.out _ aB.out
   refine ryy [9,13] ?_
   refine .cons rfl (fun K hK=>?_) ?_
   go_simp
   go_at_call 86
   refine (darea_any 0 0 (ahV ax ay bx by' cx cy) (lfV ax ay bx by' cx cy) (ahV ax ay bx by' dx dy) (lfV ax ay bx by' dx dy) false none 0 0 false none 0 0 s11 A11 n11 c11 s12 A12 n12 c12 s13 A13 n13 c13 s14 A14 n14 c14 v (PIo.new aW.out aB.out) (PIo.new aW.out aB.out) aD.out aF.out aH.out aI.out (ar_nk H4.out)).mono ?_
   rw [ar_zero]
   rintro e v27 ⟨s15,A15,n15,c15,rfl,hr15,hb⟩
   have aR:=hJ hb
   have eC:=hJ hr15
   clear hb hr15
   go_wp2_with fail
   have cE:=hJ (bt aB.out aR.out)
   have eD:=hJ (PIo.new aD.out aR.out)
   have eE:=hJ (PIo.new aF.out aR.out)
   have eF:=hJ (PIo.new aH.out aR.out)
   have eG:=hJ (PIo.new aI.out aR.out)
   clear hHeld
   refine hK.out _ _ (aC.out _ cE.out) (fun hHeld=>?_)
   clear hK K
   refine tq 10 ?_
   refine tq 11 ?_
   refine tq 12 ?_
   try simp only [PT]
   exact wpAnyH_cast (by kernel_rfl) (cA s11 A11 n11 c11 s12 A12 n12 c12 s13 A13 n13 c13 s14 A14 n14 c14 s15 A15 n15 c15 v27 cE eD eE eF eG eC)
   refine .cons rfl (fun K hK=>?_) .nil
   go_simp
   have aO:=hJ ((Below.refl v.heap.size v).alloc (Nat.le_refl _) (.cells #[.bool false,.slice none 0 0] 25))
   have bJ:=hJ (BX.lit v 25 #[.bool false,.slice none 0 0])
   obtain ⟨v28,hV⟩:=nmz (World.alloc v (.cells #[.bool false,.slice none 0 0] 25))
   obtain ⟨aA,hg⟩:=nmz (v.heap.size)
   rw [hV] at aO bJ ⊢
   rw [hg] at bJ ⊢
   have eH:=hJ (show w18.heap.size≤aA by rw [←hg]; exact aB.out.size)
   clear hV hg
   have cF:=hJ (bt aB.out aO.out)
   have eI:=hJ (PIo.new aD.out aO.out)
   have eJ:=hJ (PIo.new aF.out aO.out)
   have eK:=hJ (PIo.new aH.out aO.out)
   have eL:=hJ (PIo.new aI.out aO.out)
   clear hHeld
   refine hK.out _ _ (aC.out _ cF.out) (fun hHeld=>?_)
   clear hK K
   try simp only [PT]
   exact wpAnyH_cast (by kernel_rfl) (aY s11 A11 n11 c11 s12 A12 n12 c12 s13 A13 n13 c13 s14 A14 n14 c14 aA v28 cF eI eJ eK eL bJ eH)
  have aZ:∀ (s11:Bool) (A11:Option Addr) (n11:Nat) (c11:Nat) (s12:Bool) (A12:Option Addr) (n12:Nat) (c12:Nat) (aA:Nat) (v:World),Hid (Below w18.heap.size w18 v)→Hid (PI v s11 A11 n11 c11 (ahV ax ay bx by' cx cy))→Hid (PI v s12 A12 n12 c12 (lfV ax ay bx by' cx cy))→Hid (BX 25 v aA #[.bool false,.slice none 0 0])→Hid (w18.heap.size≤aA)→F 7 (Array.setIfInBounds (Array.setIfInBounds L0 4 true) 13 true) (Act.put (Act.put a0 (some 34) (.agg #[.bool s11,.slice A11 n11 c11,.bool s12,.slice A12 n12 c12])) (some 12) (.pointer (some ⟨aA,0,none⟩))) v:=by
   intro s11 A11 n11 c11 s12 A12 n12 c12 aA v aB aD aF aG aJ
   subst hF ha0 hL0
   simp only [PT] at aY ⊢
   have hHeld:=aC.out _ aB.out
   refine ryy [8] ?_
   refine .cons rfl (fun K hK=>?_) .nil
   go_simp
   go_at_call 88
   refine (view_any ax ay bx by' dx dy v H4.out.1 H4.out.2.1 H4.out.2.2.2).mono ?_
   rintro e v29 ⟨s13,A13,n13,c13,s14,A14,n14,c14,rfl,hr13,hr14,hb⟩
   have bA:=hJ hb
   have eM:=hJ hr13
   have eN:=hJ hr14
   clear hb hr13 hr14
   go_wp2_with fail
   have cG:=hJ (bt aB.out bA.out)
   have eO:=hJ (PIo.new aD.out bA.out)
   have eP:=hJ (PIo.new aF.out bA.out)
   have eQ:=hJ (BX.new aG.out bA.out)
   clear hHeld
   refine hK.out _ _ (aC.out _ cG.out) (fun hHeld=>?_)
   clear hK K
   try simp only [PT]
   exact wpAnyH_cast (by kernel_rfl) (aY s11 A11 n11 c11 s12 A12 n12 c12 s13 A13 n13 c13 s14 A14 n14 c14 aA v29 cG eO eP eM eN eQ aJ)
  have cH:∀ (s11:Bool) (A11:Option Addr) (n11:Nat) (c11:Nat) (s12:Bool) (A12:Option Addr) (n12:Nat) (c12:Nat) (v:World),Hid (Below w18.heap.size w18 v)→Hid (PI v s11 A11 n11 c11 (ahV ax ay bx by' cx cy))→Hid (PI v s12 A12 n12 c12 (lfV ax ay bx by' cx cy))→F 8 (Array.setIfInBounds L0 4 true) (Act.put a0 (some 34) (.agg #[.bool s11,.slice A11 n11 c11,.bool s12,.slice A12 n12 c12])) v:=by
   intro s11 A11 n11 c11 s12 A12 n12 c12 v aB aD aF
   subst hF ha0 hL0
   simp only [PT] at cD aZ ⊢
   have hHeld:=aC.out _ aB.out
   refine ryy [8,13] ?_
   refine .cons rfl (fun K hK=>?_) ?_
   go_simp
   go_at_call 88
   refine (view_any ax ay bx by' dx dy v H4.out.1 H4.out.2.1 H4.out.2.2.2).mono ?_
   rintro e v30 ⟨s13,A13,n13,c13,s14,A14,n14,c14,rfl,hr13,hr14,hb⟩
   have bK:=hJ hb
   have eR:=hJ hr13
   have eS:=hJ hr14
   clear hb hr13 hr14
   go_wp2_with fail
   have cI:=hJ (bt aB.out bK.out)
   have eT:=hJ (PIo.new aD.out bK.out)
   have eU:=hJ (PIo.new aF.out bK.out)
   clear hHeld
   refine hK.out _ _ (aC.out _ cI.out) (fun hHeld=>?_)
   clear hK K
   try simp only [PT]
   exact wpAnyH_cast (by kernel_rfl) (cD s11 A11 n11 c11 s12 A12 n12 c12 s13 A13 n13 c13 s14 A14 n14 c14 v30 cI eT eU eR eS)
   refine .cons rfl (fun K hK=>?_) .nil
   go_simp
   have bB:=hJ ((Below.refl v.heap.size v).alloc (Nat.le_refl _) (.cells #[.bool false,.slice none 0 0] 25))
   have bL:=hJ (BX.lit v 25 #[.bool false,.slice none 0 0])
   obtain ⟨v31,hV⟩:=nmz (World.alloc v (.cells #[.bool false,.slice none 0 0] 25))
   obtain ⟨aA,hg⟩:=nmz (v.heap.size)
   rw [hV] at bB bL ⊢
   rw [hg] at bL ⊢
   have eV:=hJ (show w18.heap.size≤aA by rw [←hg]; exact aB.out.size)
   clear hV hg
   have cJ:=hJ (bt aB.out bB.out)
   have eW:=hJ (PIo.new aD.out bB.out)
   have eX:=hJ (PIo.new aF.out bB.out)
   clear hHeld
   refine hK.out _ _ (aC.out _ cJ.out) (fun hHeld=>?_)
   clear hK K
   try simp only [PT]
   exact wpAnyH_cast (by kernel_rfl) (aZ s11 A11 n11 c11 s12 A12 n12 c12 aA v31 cJ eW eX bL eV)
  have cK:∀ (aA:Nat) (v:World),Hid (Below w18.heap.size w18 v)→Hid (BX 25 v aA #[.bool false,.slice none 0 0])→Hid (w18.heap.size≤aA)→F 8 (Array.setIfInBounds L0 13 true) (Act.put a0 (some 12) (.pointer (some ⟨aA,0,none⟩))) v:=by
   intro aA v aB aG aJ
   subst hF ha0 hL0
   simp only [PT] at aZ ⊢
   have hHeld:=aC.out _ aB.out
   refine ryy [4] ?_
   refine .cons rfl (fun K hK=>?_) .nil
   go_simp
   go_at_call 88
   refine (view_any ax ay bx by' cx cy v H4.out.1 H4.out.2.1 H4.out.2.2.1).mono ?_
   rintro e v32 ⟨s11,A11,n11,c11,s12,A12,n12,c12,rfl,hr11,hr12,hb⟩
   have cL:=hJ hb
   have eY:=hJ hr11
   have eZ:=hJ hr12
   clear hb hr11 hr12
   go_wp2_with fail
   have cM:=hJ (bt aB.out cL.out)
   have fA:=hJ (BX.new aG.out cL.out)
   clear hHeld
   refine hK.out _ _ (aC.out _ cM.out) (fun hHeld=>?_)
   clear hK K
   try simp only [PT]
   exact wpAnyH_cast (by kernel_rfl) (aZ s11 A11 n11 c11 s12 A12 n12 c12 aA v32 cM eY eZ fA aJ)
  subst hF ha0 hL0
  simp only [PT] at cH cK
  refine ryy [4,13] ?_
  refine .cons rfl (fun K hK=>?_) ?_
  go_simp
  go_at_call 88
  refine (view_any ax ay bx by' cx cy v19 H4.out.1 H4.out.2.1 H4.out.2.2.1).mono ?_
  rintro e v33 ⟨s11,A11,n11,c11,s12,A12,n12,c12,rfl,hr11,hr12,hb⟩
  have fB:=hJ hb
  have fC:=hJ hr11
  have fD:=hJ hr12
  clear hb hr11 hr12
  go_wp2_with fail
  have cN:=hJ (bt bE.out fB.out)
  clear hHeld
  refine hK.out _ _ (aC.out _ cN.out) (fun hHeld=>?_)
  clear hK K
  try simp only [PT]
  exact wpAnyH_cast (by kernel_rfl) (cH s11 A11 n11 c11 s12 A12 n12 c12 v33 cN fC fD)
  refine .cons rfl (fun K hK=>?_) .nil
  go_simp
  have cO:=hJ ((Below.refl v19.heap.size v19).alloc (Nat.le_refl _) (.cells #[.bool false,.slice none 0 0] 25))
  have bM:=hJ (BX.lit v19 25 #[.bool false,.slice none 0 0])
  obtain ⟨v34,hV⟩:=nmz (World.alloc v19 (.cells #[.bool false,.slice none 0 0] 25))
  obtain ⟨aA,hg⟩:=nmz (v19.heap.size)
  rw [hV] at cO bM ⊢
  rw [hg] at bM ⊢
  have fE:=hJ (show w18.heap.size≤aA by rw [←hg]; exact bE.out.size)
  clear hV hg
  have cP:=hJ (bt bE.out cO.out)
  clear hHeld
  refine hK.out _ _ (aC.out _ cP.out) (fun hHeld=>?_)
  clear hK K
  try simp only [PT]
  exact wpAnyH_cast (by kernel_rfl) (cK aA v34 cP bM fE)
 ·have hEz:(E == 0)=false:=by simp [hE0]
  have HV:=hJ (show crV ax ay bx by' cx cy dx dy=0∧crE ax ay bx by' cx cy dx dy=E from ⟨if_neg (by rw [HE.out]; exact hE0),by rw [crE,HE.out,if_neg hE0]⟩)
  clear hE0
  have fF:=hJ (bt (bt bC.out aS.out) aT.out)
  go_wp2
  go_ret2
  exact ⟨by rw [HV.out.1,HV.out.2] <;> rfl,fF.out⟩
theorem pickz_any (sv:Value) (xs:List Int) (i m:Nat) (w:World) (h:Got w sv xs) (hi:i≤1000) (h1:1≤(m:Int)) (hm:(m:Int)≤1099511627776) :
  Calls Tryz.prog 32 #[sv,.int .i64 i,.int .i64 m] w fun e w'=>(∃ k:Int,e=.returned (.int .i64 k)∧(0≤k∧k < m)∧(Lit.int .i64 k).wf=true)∧w=w':=by
 obtain ⟨hs,hl,hw⟩:=h
 unfold maxLen at hl
 have hi0:¬ (i:Int) < 0:=by omega
 rcases hs with ⟨rfl,rfl⟩ | ⟨ad,c,rfl,hc,hcell⟩
 ·go_enter Tryz.func32,Tryz.ntmps32
  go_wp2
  go_ret
  exact ⟨⟨0,rfl,⟨by omega,by omega⟩,by decide⟩,rfl⟩
 ·obtain ⟨n,hn⟩:∃ n,xs.length=n:=⟨_,rfl⟩
  have HN:=hJ hn
  rw [hn] at hl hc ⊢
  clear hn
  rcases Nat.lt_or_ge i n with hlt | hge
  ·obtain ⟨v,hv⟩:∃ v,xs[i]?=some v:=⟨_,List.getElem?_eq_getElem (by rw [HN.out]; exact hlt)⟩
   have hcv:=hcell i v hv
   have HA:=hJ (fun w'=>aroundz_any v m w' h1 hm (hw v (List.mem_of_getElem? hv)))
   have HB:=hJ (aroundZ_in v h1)
   have HM:=hJ hm
   clear hcell hw
   go_enter Tryz.func32,Tryz.ntmps32
   go_wp2_with fail
   refine (HA.out _).mono ?_
   rintro e w1 ⟨rfl,rfl⟩
   go_wp2
   go_ret
   exact ⟨⟨_,rfl,HB.out,WalkArith.wf_i64 (by have:=HB.out; have:=HM.out; omega)⟩,rfl⟩
  ·have hge2:((n:Nat):Int)≤(i:Int):=by omega
   go_enter Tryz.func32,Tryz.ntmps32
   go_wp2
   go_ret
   exact ⟨⟨0,rfl,⟨by omega,by omega⟩,by decide⟩,rfl⟩
theorem p6_any (x y:Int) (w:World) :
  Calls Tryz.prog 77 #[.int .i64 x,.int .i64 y] w fun e w'=>e=.returned (.agg #[.int .i64 x,.int .i64 y])∧Below w.heap.size w w':=by
 obtain ⟨x1,aA⟩:=nmz (w.alloc (.cells #[.int .i64 x,.int .i64 y] 71))
 have aB:=hJ (show Below w.heap.size w x1 by rw [←aA]; exact ((Below.refl _ _).alloc (Nat.le_refl _) _))
 have aC:=hJ (show BX 71 x1 w.heap.size #[.int .i64 x,.int .i64 y] by rw [←aA]; exact (BX.at rfl))
 go_enter Tryz.func77,Tryz.ntmps77
 go_wp2
 clear aA
 exact bodyPost_ret (results_cell_row rfl _ _ _ _ _ _ _ rfl aC.out Tryz.underlying71 rfl G_size) rfl ⟨rfl,aB.out⟩
theorem lives6_any (w:World) :
  Calls Tryz.prog 28 #[] w fun e w'=>e=.returned (.bool true)∧Below w.heap.size w w':=by
 go_enter Tryz.func28,Tryz.ntmps28
 go_wp2_with fail
 refine (p6_any 0 0 w).mono ?_
 rintro e w1 ⟨rfl,hb⟩
 have aA:=hJ hb
 clear hb
 go_wp2_with fail
 refine (p6_any 1 0 w1).mono ?_
 rintro e w2 ⟨rfl,hb⟩
 have aB:=hJ hb
 clear hb
 go_wp2_with fail
 refine (p6_any 0 1 w2).mono ?_
 rintro e w3 ⟨rfl,hb⟩
 have aC:=hJ hb
 clear hb
 go_wp2_with fail
 refine (sideof_any 0 0 1 0 0 1 w3).mono ?_
 rw [show soV 0 0 1 0 0 1=1 by decide,show soE 0 0 1 0 0 1=0 by decide]
 rintro e w4 ⟨rfl,hb⟩
 have aD:=hJ hb
 clear hb
 go_wp2_with fail
 refine (p6_any 0 0 w4).mono ?_
 rintro e w5 ⟨rfl,hb⟩
 have aF:=hJ hb
 clear hb
 go_wp2_with fail
 refine (p6_any 2 0 w5).mono ?_
 rintro e w6 ⟨rfl,hb⟩
 have aG:=hJ hb
 clear hb
 go_wp2_with fail
 refine (p6_any 0 2 w6).mono ?_
 rintro e w7 ⟨rfl,hb⟩
 have aH:=hJ hb
 clear hb
 go_wp2_with fail
 refine (p6_any 2 2 w7).mono ?_
 rintro e w8 ⟨rfl,hb⟩
 have aI:=hJ hb
 clear hb
 go_wp2_with fail
 refine (circle_any 0 0 2 0 0 2 2 2 w8).mono ?_
 rw [show crV 0 0 2 0 0 2 2 2=0 by decide,show crE 0 0 2 0 0 2 2 2=0 by decide]
 rintro e w9 ⟨rfl,hb⟩
 have aJ:=hJ hb
 clear hb
 go_wp2_with fail
 refine (p6_any 0 0 w9).mono ?_
 rintro e w10 ⟨rfl,hb⟩
 have aK:=hJ hb
 clear hb
 go_wp2_with fail
 refine (p6_any 2 0 w10).mono ?_
 rintro e w11 ⟨rfl,hb⟩
 have aL:=hJ hb
 clear hb
 go_wp2_with fail
 refine (p6_any 0 2 w11).mono ?_
 rintro e w12 ⟨rfl,hb⟩
 have aM:=hJ hb
 clear hb
 go_wp2_with fail
 refine (p6_any 1 1 w12).mono ?_
 rintro e w13 ⟨rfl,hb⟩
 have aN:=hJ hb
 clear hb
 go_wp2_with fail
 refine (circle_any 0 0 2 0 0 2 1 1 w13).mono ?_
 rw [show crV 0 0 2 0 0 2 1 1=1 by decide,show crE 0 0 2 0 0 2 1 1=0 by decide]
 rintro e w14 ⟨rfl,hb⟩
 have aO:=hJ hb
 clear hb
 go_wp2_with fail
 refine (p6_any 0 (-1) w14).mono ?_
 rintro e w15 ⟨rfl,hb⟩
 have aR:=hJ hb
 clear hb
 go_wp2_with fail
 refine (p6_any (-1) 0 w15).mono ?_
 rintro e w16 ⟨rfl,hb⟩
 have aS:=hJ hb
 clear hb
 go_wp2_with fail
 refine (turn_any 0 (-1) (-1) 0 w16).mono ?_
 rw [show tuV 0 (-1) (-1) 0=1 by decide,show tuE 0 (-1) (-1) 0=0 by decide]
 rintro e w17 ⟨rfl,hb⟩
 have aT:=hJ hb
 clear hb
 have aU:=hJ (bt (bt (bt (bt (bt (bt (bt (bt (bt (bt (bt (bt (bt (bt (bt (bt aA.out aB.out) aC.out) aD.out) aF.out) aG.out) aH.out) aI.out) aJ.out) aK.out) aL.out) aM.out) aN.out) aO.out) aR.out) aS.out) aT.out)
 go_wp2
 go_ret
 exact ⟨by first | rfl | kernel_rfl,aU.out⟩
end Go.Proofs.YtbgfmegepekapaaGreat
