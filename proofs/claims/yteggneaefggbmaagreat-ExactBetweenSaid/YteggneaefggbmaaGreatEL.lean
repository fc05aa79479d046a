/- Contracts: the steps of doubledArea over integers. Conditions: as each statement has them. -/
import Derived.Test.YteggneaefggbmaaGreatFD
import Derived.Test.YteggneaefggbmaaGreatED
import Derived.Laws.EntriesVeiled
namespace Go.Proofs.YteggneaefggbmaaGreat
set_option maxRecDepth 100000
set_option maxHeartbeats 12800000
open Go.RowKit
attribute [local go_sem ↓] Go.wp_at_zero Go.wp_at_succ
set_option linter.unusedVariables false
set_option linter.unusedSimpArgs false
theorem fx7_0 {v0 v1 v2 v3 v4 v5 v6:Value} (wx:World):(Instr.index 241 (.agg #[v0,v1,v2,v3,v4,v5,v6]) (.int .i64 0)).run Tryz.prog wx=.ok v0 wx:=by
 first
  | kernel_rfl
  | simp [Instr.index,run_underlying Tryz.underlying241,asIntOf,go_sem]
theorem fx7_1 {v0 v1 v2 v3 v4 v5 v6:Value} (wx:World):(Instr.index 241 (.agg #[v0,v1,v2,v3,v4,v5,v6]) (.int .i64 1)).run Tryz.prog wx=.ok v1 wx:=by
 first
  | kernel_rfl
  | simp [Instr.index,run_underlying Tryz.underlying241,asIntOf,go_sem]
theorem fx7_2 {v0 v1 v2 v3 v4 v5 v6:Value} (wx:World):(Instr.index 241 (.agg #[v0,v1,v2,v3,v4,v5,v6]) (.int .i64 2)).run Tryz.prog wx=.ok v2 wx:=by
 first
  | kernel_rfl
  | simp [Instr.index,run_underlying Tryz.underlying241,asIntOf,go_sem]
theorem fx7_3 {v0 v1 v2 v3 v4 v5 v6:Value} (wx:World):(Instr.index 241 (.agg #[v0,v1,v2,v3,v4,v5,v6]) (.int .i64 3)).run Tryz.prog wx=.ok v3 wx:=by
 first
  | kernel_rfl
  | simp [Instr.index,run_underlying Tryz.underlying241,asIntOf,go_sem]
theorem fx7_4 {v0 v1 v2 v3 v4 v5 v6:Value} (wx:World):(Instr.index 241 (.agg #[v0,v1,v2,v3,v4,v5,v6]) (.int .i64 4)).run Tryz.prog wx=.ok v4 wx:=by
 first
  | kernel_rfl
  | simp [Instr.index,run_underlying Tryz.underlying241,asIntOf,go_sem]
theorem fx7_5 {v0 v1 v2 v3 v4 v5 v6:Value} (wx:World):(Instr.index 241 (.agg #[v0,v1,v2,v3,v4,v5,v6]) (.int .i64 5)).run Tryz.prog wx=.ok v5 wx:=by
 first
  | kernel_rfl
  | simp [Instr.index,run_underlying Tryz.underlying241,asIntOf,go_sem]
theorem fx7_6 {v0 v1 v2 v3 v4 v5 v6:Value} (wx:World):(Instr.index 241 (.agg #[v0,v1,v2,v3,v4,v5,v6]) (.int .i64 6)).run Tryz.prog wx=.ok v6 wx:=by
 first
  | kernel_rfl
  | simp [Instr.index,run_underlying Tryz.underlying241,asIntOf,go_sem]
theorem da1_any (x y:Int) (s0:Bool) (A0:Option Addr) (n0 c0:Nat) (s1:Bool) (A1:Option Addr) (n1 c1:Nat) (s2:Bool) (A2:Option Addr) (n2 c2:Nat) (s3:Bool) (A3:Option Addr) (n3 c3:Nat) (gf gb ga:Nat) (w:World) (hf:BX 72 w gf #[.func (.func 130) #[] #[]]) (hb0:BX 190 w gb #[.bool s0,.slice A0 n0 c0,.bool s1,.slice A1 n1 c1]) (ha0:BX 190 w ga #[.bool s2,.slice A2 n2 c2,.bool s3,.slice A3 n3 c3]) (hx:PI w s0 A0 n0 c0 x) (hy:PI w s2 A2 n2 c2 y) (lx:x.natAbs < lim) (ly:y.natAbs < lim) (lz:(x - y).natAbs < lim) :
  Calls Tryz.prog 182 #[.pointer (some ⟨gf,0,none⟩),.pointer (some ⟨gb,0,none⟩),.pointer (some ⟨ga,0,none⟩)] w (RetPE (x - y) 0 w):=by
 have HF:=hJ hf
 have HB:=hJ hb0
 have HA:=hJ ha0
 have HX:=hJ hx
 have HY:=hJ hy
 have HL:=hJ (And.intro lx (And.intro ly lz))
 clear hf hb0 hx hy lx ly lz ha0
 obtain ⟨x1,aC⟩:=nmz (w.alloc (.cells #[.bool false,.slice none 0 0] 25))
 have aA:=hJ (show Below w.heap.size w x1 by rw [←aC]; exact ((Below.refl _ _).alloc (Nat.le_refl _) _))
 have aI:=hJ (show BX 25 x1 w.heap.size #[.bool false,.slice none 0 0] by rw [←aC]; exact (BX.at rfl))
 have aJ:=hJ (show w.heap.size≤w.heap.size by omega)
 have aK:=hJ (BX.new HF.out aA.out)
 have aL:=aK.out.cell 0 rfl
 have aM:=hJ (BX.new HB.out aA.out)
 obtain ⟨aN,aO⟩:=aM.out.c2 0 1 rfl rfl
 have aP:=hJ (BX.new HA.out aA.out)
 obtain ⟨aQ,aR⟩:=aP.out.c2 0 1 rfl rfl
 have aE:=hJ (PIo.new HX.out aA.out)
 have aF:=hJ (PIo.new HY.out aA.out)
 go_enter Tryz.func182,Tryz.ntmps182
 go_wp2_with fail
 clear aC aL aN aO aQ aR
 refine (psub_any x y s0 s2 A0 A2 n0 c0 n2 c2 x1 aE.out aF.out (Nat.le_trans (plim aE.out HL.out.1) (by decide)) (Nat.le_trans (plim aF.out HL.out.2.1) (by decide)) HL.out.1 HL.out.2.1).mono ?_
 rw [(in_lim HL.out.2.2).1,(in_lim HL.out.2.2).2]
 rintro e w7 ⟨s11,A11,n11,c11,rfl,hr11,hb⟩
 have aG:=hJ hb
 have aS:=hJ hr11
 clear hb hr11
 have aB:=hJ (BX.new aI.out aG.out)
 have aT:=aB.out.frozen 0
 have aU:=aB.out.cell 0 rfl
 have aV:=aB.out.frozen 1
 have aW:=aB.out.cell 1 rfl
 obtain ⟨x8,aH⟩:=nmz (World.setCell (World.setCell w7 ⟨w.heap.size,0,none⟩ (.bool s11)) ⟨w.heap.size,1,none⟩ (.slice A11 n11 c11))
 have aD:=hJ (show sto w7 w.heap.size 0 [.bool s11,.slice A11 n11 c11]=x8 from aH)
 have aX:=hJ (show BX 25 x8 w.heap.size #[.bool s11,.slice A11 n11 c11] by rw [←aD.out]; exact BX.put aB.out _ _)
 have aY:=hJ (show Below w.heap.size w x8 by rw [←aD.out]; exact below_sto (bt aA.out aG.out) aJ.out _ _)
 have aZ:=hJ (show PI x8 s11 A11 n11 c11 (x - y) by rw [←aD.out]; exact PIo.sto aS.out aB.out rfl _ _)
 go_wp2
 clear aT aU aV aW aH
 exact bodyPost_ret (results_cell1 rfl _ _ _ _ _ _ _ rfl aX.out Tryz.underlying25 rfl W_size) rfl ⟨s11,A11,n11,c11,rfl,aZ.out,aY.out⟩
theorem da2_any (x y:Int) (s0:Bool) (A0:Option Addr) (n0 c0:Nat) (s1:Bool) (A1:Option Addr) (n1 c1:Nat) (s2:Bool) (A2:Option Addr) (n2 c2:Nat) (s3:Bool) (A3:Option Addr) (n3 c3:Nat) (gf gb ga:Nat) (w:World) (hf:BX 72 w gf #[.func (.func 130) #[] #[]]) (hb0:BX 190 w gb #[.bool s0,.slice A0 n0 c0,.bool s1,.slice A1 n1 c1]) (ha0:BX 190 w ga #[.bool s2,.slice A2 n2 c2,.bool s3,.slice A3 n3 c3]) (hx:PI w s1 A1 n1 c1 x) (hy:PI w s3 A3 n3 c3 y) (lx:x.natAbs < lim) (ly:y.natAbs < lim) (lz:(x - y).natAbs < lim) :
  Calls Tryz.prog 183 #[.pointer (some ⟨gf,0,none⟩),.pointer (some ⟨gb,0,none⟩),.pointer (some ⟨ga,0,none⟩)] w (RetPE (x - y) 0 w):=by
 have HF:=hJ hf
 have HB:=hJ hb0
 have HA:=hJ ha0
 have HX:=hJ hx
 have HY:=hJ hy
 have HL:=hJ (And.intro lx (And.intro ly lz))
 clear hf hb0 hx hy lx ly lz ha0
 obtain ⟨x1,aC⟩:=nmz (w.alloc (.cells #[.bool false,.slice none 0 0] 25))
 have aA:=hJ (show Below w.heap.size w x1 by rw [←aC]; exact ((Below.refl _ _).alloc (Nat.le_refl _) _))
 have aI:=hJ (show BX 25 x1 w.heap.size #[.bool false,.slice none 0 0] by rw [←aC]; exact (BX.at rfl))
 have aJ:=hJ (show w.heap.size≤w.heap.size by omega)
 have aK:=hJ (BX.new HF.out aA.out)
 have aL:=aK.out.cell 0 rfl
 have aM:=hJ (BX.new HB.out aA.out)
 obtain ⟨aN,aO⟩:=aM.out.c2 2 3 rfl rfl
 have aP:=hJ (BX.new HA.out aA.out)
 obtain ⟨aQ,aR⟩:=aP.out.c2 2 3 rfl rfl
 have aE:=hJ (PIo.new HX.out aA.out)
 have aF:=hJ (PIo.new HY.out aA.out)
 go_enter Tryz.func183,Tryz.ntmps183
 go_wp2_with fail
 clear aC aL aN aO aQ aR
 refine (psub_any x y s1 s3 A1 A3 n1 c1 n3 c3 x1 aE.out aF.out (Nat.le_trans (plim aE.out HL.out.1) (by decide)) (Nat.le_trans (plim aF.out HL.out.2.1) (by decide)) HL.out.1 HL.out.2.1).mono ?_
 rw [(in_lim HL.out.2.2).1,(in_lim HL.out.2.2).2]
 rintro e w7 ⟨s11,A11,n11,c11,rfl,hr11,hb⟩
 have aG:=hJ hb
 have aS:=hJ hr11
 clear hb hr11
 have aB:=hJ (BX.new aI.out aG.out)
 have aT:=aB.out.frozen 0
 have aU:=aB.out.cell 0 rfl
 have aV:=aB.out.frozen 1
 have aW:=aB.out.cell 1 rfl
 obtain ⟨x8,aH⟩:=nmz (World.setCell (World.setCell w7 ⟨w.heap.size,0,none⟩ (.bool s11)) ⟨w.heap.size,1,none⟩ (.slice A11 n11 c11))
 have aD:=hJ (show sto w7 w.heap.size 0 [.bool s11,.slice A11 n11 c11]=x8 from aH)
 have aX:=hJ (show BX 25 x8 w.heap.size #[.bool s11,.slice A11 n11 c11] by rw [←aD.out]; exact BX.put aB.out _ _)
 have aY:=hJ (show Below w.heap.size w x8 by rw [←aD.out]; exact below_sto (bt aA.out aG.out) aJ.out _ _)
 have aZ:=hJ (show PI x8 s11 A11 n11 c11 (x - y) by rw [←aD.out]; exact PIo.sto aS.out aB.out rfl _ _)
 go_wp2
 clear aT aU aV aW aH
 exact bodyPost_ret (results_cell1 rfl _ _ _ _ _ _ _ rfl aX.out Tryz.underlying25 rfl W_size) rfl ⟨s11,A11,n11,c11,rfl,aZ.out,aY.out⟩
theorem da3_any (x y:Int) (s0:Bool) (A0:Option Addr) (n0 c0:Nat) (s1:Bool) (A1:Option Addr) (n1 c1:Nat) (s2:Bool) (A2:Option Addr) (n2 c2:Nat) (s3:Bool) (A3:Option Addr) (n3 c3:Nat) (s4:Bool) (A4:Option Addr) (n4 c4:Nat) (s5:Bool) (A5:Option Addr) (n5 c5:Nat) (s6:Bool) (A6:Option Addr) (n6 c6:Nat) (gf gb:Nat) (w:World) (hf:BX 72 w gf #[.func (.func 42) #[] #[]]) (hb0:BX 239 w gb #[.bool s0,.slice A0 n0 c0,.bool s1,.slice A1 n1 c1,.bool s2,.slice A2 n2 c2,.bool s3,.slice A3 n3 c3,.bool s4,.slice A4 n4 c4,.bool s5,.slice A5 n5 c5,.bool s6,.slice A6 n6 c6]) (hx:PI w s0 A0 n0 c0 x) (hy:PI w s1 A1 n1 c1 y) (lx:x.natAbs < lim) (ly:y.natAbs < lim) (lz:(x*y).natAbs < lim) :
  Calls Tryz.prog 184 #[.pointer (some ⟨gf,0,none⟩),.pointer (some ⟨gb,0,none⟩)] w (RetPE (x*y) 0 w):=by
 have HF:=hJ hf
 have HB:=hJ hb0
 have HX:=hJ hx
 have HY:=hJ hy
 have HL:=hJ (And.intro lx (And.intro ly lz))
 clear hf hb0 hx hy lx ly lz
 obtain ⟨x1,aC⟩:=nmz (w.alloc (.cells #[.bool false,.slice none 0 0] 25))
 have aB:=hJ (show Below w.heap.size w x1 by rw [←aC]; exact ((Below.refl _ _).alloc (Nat.le_refl _) _))
 have aJ:=hJ (show BX 25 x1 w.heap.size #[.bool false,.slice none 0 0] by rw [←aC]; exact (BX.at rfl))
 have aK:=hJ (show w.heap.size≤w.heap.size by omega)
 have aL:=hJ (BX.new HF.out aB.out)
 have aM:=aL.out.cell 0 rfl
 have aE:=hJ (BX.new HB.out aB.out)
 obtain ⟨aN,aO⟩:=aE.out.c2 0 1 rfl rfl
 obtain ⟨aP,aQ⟩:=aE.out.c2 2 3 rfl rfl
 have aF:=hJ (PIo.new HX.out aB.out)
 have aG:=hJ (PIo.new HY.out aB.out)
 go_enter Tryz.func184,Tryz.ntmps184
 go_wp2_with fail
 clear aC aM aN aO aP aQ
 refine (pmul_any x y s0 s1 A0 A1 n0 c0 n1 c1 x1 aF.out aG.out (Nat.le_trans (plim aF.out HL.out.1) (by decide)) (Nat.le_trans (plim aG.out HL.out.2.1) (by decide))).mono ?_
 rw [(in_lim HL.out.2.2).1,(in_lim HL.out.2.2).2]
 rintro e w7 ⟨s11,A11,n11,c11,rfl,hr11,hb⟩
 have aH:=hJ hb
 have aR:=hJ hr11
 clear hb hr11
 have aA:=hJ (BX.new aJ.out aH.out)
 have aS:=aA.out.frozen 0
 have aT:=aA.out.cell 0 rfl
 have aU:=aA.out.frozen 1
 have aV:=aA.out.cell 1 rfl
 obtain ⟨x8,aI⟩:=nmz (World.setCell (World.setCell w7 ⟨w.heap.size,0,none⟩ (.bool s11)) ⟨w.heap.size,1,none⟩ (.slice A11 n11 c11))
 have aD:=hJ (show sto w7 w.heap.size 0 [.bool s11,.slice A11 n11 c11]=x8 from aI)
 have aW:=hJ (show BX 25 x8 w.heap.size #[.bool s11,.slice A11 n11 c11] by rw [←aD.out]; exact BX.put aA.out _ _)
 have aX:=hJ (show Below w.heap.size w x8 by rw [←aD.out]; exact below_sto (bt aB.out aH.out) aK.out _ _)
 have aY:=hJ (show PI x8 s11 A11 n11 c11 (x*y) by rw [←aD.out]; exact PIo.sto aR.out aA.out rfl _ _)
 go_wp2
 clear aS aT aU aV aI
 exact bodyPost_ret (results_cell1 rfl _ _ _ _ _ _ _ rfl aW.out Tryz.underlying25 rfl W_size) rfl ⟨s11,A11,n11,c11,rfl,aY.out,aX.out⟩
theorem da4_any (x y:Int) (s0:Bool) (A0:Option Addr) (n0 c0:Nat) (s1:Bool) (A1:Option Addr) (n1 c1:Nat) (s2:Bool) (A2:Option Addr) (n2 c2:Nat) (s3:Bool) (A3:Option Addr) (n3 c3:Nat) (gf gb ga:Nat) (w:World) (hf:BX 72 w gf #[.func (.func 130) #[] #[]]) (hb0:BX 190 w gb #[.bool s0,.slice A0 n0 c0,.bool s1,.slice A1 n1 c1]) (ha0:BX 190 w ga #[.bool s2,.slice A2 n2 c2,.bool s3,.slice A3 n3 c3]) (hx:PI w s1 A1 n1 c1 x) (hy:PI w s3 A3 n3 c3 y) (lx:x.natAbs < lim) (ly:y.natAbs < lim) (lz:(x - y).natAbs < lim) :
  Calls Tryz.prog 185 #[.pointer (some ⟨gf,0,none⟩),.pointer (some ⟨gb,0,none⟩),.pointer (some ⟨ga,0,none⟩)] w (RetPE (x - y) 0 w):=by
 have HF:=hJ hf
 have HB:=hJ hb0
 have HA:=hJ ha0
 have HX:=hJ hx
 have HY:=hJ hy
 have HL:=hJ (And.intro lx (And.intro ly lz))
 clear hf hb0 hx hy lx ly lz ha0
 obtain ⟨x1,aC⟩:=nmz (w.alloc (.cells #[.bool false,.slice none 0 0] 25))
 have aA:=hJ (show Below w.heap.size w x1 by rw [←aC]; exact ((Below.refl _ _).alloc (Nat.le_refl _) _))
 have aI:=hJ (show BX 25 x1 w.heap.size #[.bool false,.slice none 0 0] by rw [←aC]; exact (BX.at rfl))
 have aJ:=hJ (show w.heap.size≤w.heap.size by omega)
 have aK:=hJ (BX.new HF.out aA.out)
 have aL:=aK.out.cell 0 rfl
 have aM:=hJ (BX.new HB.out aA.out)
 obtain ⟨aN,aO⟩:=aM.out.c2 2 3 rfl rfl
 have aP:=hJ (BX.new HA.out aA.out)
 obtain ⟨aQ,aR⟩:=aP.out.c2 2 3 rfl rfl
 have aE:=hJ (PIo.new HX.out aA.out)
 have aF:=hJ (PIo.new HY.out aA.out)
 go_enter Tryz.func185,Tryz.ntmps185
 go_wp2_with fail
 clear aC aL aN aO aQ aR
 refine (psub_any x y s1 s3 A1 A3 n1 c1 n3 c3 x1 aE.out aF.out (Nat.le_trans (plim aE.out HL.out.1) (by decide)) (Nat.le_trans (plim aF.out HL.out.2.1) (by decide)) HL.out.1 HL.out.2.1).mono ?_
 rw [(in_lim HL.out.2.2).1,(in_lim HL.out.2.2).2]
 rintro e w7 ⟨s11,A11,n11,c11,rfl,hr11,hb⟩
 have aG:=hJ hb
 have aS:=hJ hr11
 clear hb hr11
 have aB:=hJ (BX.new aI.out aG.out)
 have aT:=aB.out.frozen 0
 have aU:=aB.out.cell 0 rfl
 have aV:=aB.out.frozen 1
 have aW:=aB.out.cell 1 rfl
 obtain ⟨x8,aH⟩:=nmz (World.setCell (World.setCell w7 ⟨w.heap.size,0,none⟩ (.bool s11)) ⟨w.heap.size,1,none⟩ (.slice A11 n11 c11))
 have aD:=hJ (show sto w7 w.heap.size 0 [.bool s11,.slice A11 n11 c11]=x8 from aH)
 have aX:=hJ (show BX 25 x8 w.heap.size #[.bool s11,.slice A11 n11 c11] by rw [←aD.out]; exact BX.put aB.out _ _)
 have aY:=hJ (show Below w.heap.size w x8 by rw [←aD.out]; exact below_sto (bt aA.out aG.out) aJ.out _ _)
 have aZ:=hJ (show PI x8 s11 A11 n11 c11 (x - y) by rw [←aD.out]; exact PIo.sto aS.out aB.out rfl _ _)
 go_wp2
 clear aT aU aV aW aH
 exact bodyPost_ret (results_cell1 rfl _ _ _ _ _ _ _ rfl aX.out Tryz.underlying25 rfl W_size) rfl ⟨s11,A11,n11,c11,rfl,aZ.out,aY.out⟩
theorem da5_any (x y:Int) (s0:Bool) (A0:Option Addr) (n0 c0:Nat) (s1:Bool) (A1:Option Addr) (n1 c1:Nat) (s2:Bool) (A2:Option Addr) (n2 c2:Nat) (s3:Bool) (A3:Option Addr) (n3 c3:Nat) (gf gb ga:Nat) (w:World) (hf:BX 72 w gf #[.func (.func 130) #[] #[]]) (hb0:BX 190 w gb #[.bool s0,.slice A0 n0 c0,.bool s1,.slice A1 n1 c1]) (ha0:BX 190 w ga #[.bool s2,.slice A2 n2 c2,.bool s3,.slice A3 n3 c3]) (hx:PI w s0 A0 n0 c0 x) (hy:PI w s2 A2 n2 c2 y) (lx:x.natAbs < lim) (ly:y.natAbs < lim) (lz:(x - y).natAbs < lim) :
  Calls Tryz.prog 186 #[.pointer (some ⟨gf,0,none⟩),.pointer (some ⟨gb,0,none⟩),.pointer (some ⟨ga,0,none⟩)] w (RetPE (x - y) 0 w):=by
 have HF:=hJ hf
 have HB:=hJ hb0
 have HA:=hJ ha0
 have HX:=hJ hx
 have HY:=hJ hy
 have HL:=hJ (And.intro lx (And.intro ly lz))
 clear hf hb0 hx hy lx ly lz ha0
 obtain ⟨x1,aC⟩:=nmz (w.alloc (.cells #[.bool false,.slice none 0 0] 25))
 have aA:=hJ (show Below w.heap.size w x1 by rw [←aC]; exact ((Below.refl _ _).alloc (Nat.le_refl _) _))
 have aI:=hJ (show BX 25 x1 w.heap.size #[.bool false,.slice none 0 0] by rw [←aC]; exact (BX.at rfl))
 have aJ:=hJ (show w.heap.size≤w.heap.size by omega)
 have aK:=hJ (BX.new HF.out aA.out)
 have aL:=aK.out.cell 0 rfl
 have aM:=hJ (BX.new HB.out aA.out)
 obtain ⟨aN,aO⟩:=aM.out.c2 0 1 rfl rfl
 have aP:=hJ (BX.new HA.out aA.out)
 obtain ⟨aQ,aR⟩:=aP.out.c2 0 1 rfl rfl
 have aE:=hJ (PIo.new HX.out aA.out)
 have aF:=hJ (PIo.new HY.out aA.out)
 go_enter Tryz.func186,Tryz.ntmps186
 go_wp2_with fail
 clear aC aL aN aO aQ aR
 refine (psub_any x y s0 s2 A0 A2 n0 c0 n2 c2 x1 aE.out aF.out (Nat.le_trans (plim aE.out HL.out.1) (by decide)) (Nat.le_trans (plim aF.out HL.out.2.1) (by decide)) HL.out.1 HL.out.2.1).mono ?_
 rw [(in_lim HL.out.2.2).1,(in_lim HL.out.2.2).2]
 rintro e w7 ⟨s11,A11,n11,c11,rfl,hr11,hb⟩
 have aG:=hJ hb
 have aS:=hJ hr11
 clear hb hr11
 have aB:=hJ (BX.new aI.out aG.out)
 have aT:=aB.out.frozen 0
 have aU:=aB.out.cell 0 rfl
 have aV:=aB.out.frozen 1
 have aW:=aB.out.cell 1 rfl
 obtain ⟨x8,aH⟩:=nmz (World.setCell (World.setCell w7 ⟨w.heap.size,0,none⟩ (.bool s11)) ⟨w.heap.size,1,none⟩ (.slice A11 n11 c11))
 have aD:=hJ (show sto w7 w.heap.size 0 [.bool s11,.slice A11 n11 c11]=x8 from aH)
 have aX:=hJ (show BX 25 x8 w.heap.size #[.bool s11,.slice A11 n11 c11] by rw [←aD.out]; exact BX.put aB.out _ _)
 have aY:=hJ (show Below w.heap.size w x8 by rw [←aD.out]; exact below_sto (bt aA.out aG.out) aJ.out _ _)
 have aZ:=hJ (show PI x8 s11 A11 n11 c11 (x - y) by rw [←aD.out]; exact PIo.sto aS.out aB.out rfl _ _)
 go_wp2
 clear aT aU aV aW aH
 exact bodyPost_ret (results_cell1 rfl _ _ _ _ _ _ _ rfl aX.out Tryz.underlying25 rfl W_size) rfl ⟨s11,A11,n11,c11,rfl,aZ.out,aY.out⟩
theorem da6_any (x y:Int) (s0:Bool) (A0:Option Addr) (n0 c0:Nat) (s1:Bool) (A1:Option Addr) (n1 c1:Nat) (s2:Bool) (A2:Option Addr) (n2 c2:Nat) (s3:Bool) (A3:Option Addr) (n3 c3:Nat) (s4:Bool) (A4:Option Addr) (n4 c4:Nat) (s5:Bool) (A5:Option Addr) (n5 c5:Nat) (s6:Bool) (A6:Option Addr) (n6 c6:Nat) (gf gb:Nat) (w:World) (hf:BX 72 w gf #[.func (.func 42) #[] #[]]) (hb0:BX 239 w gb #[.bool s0,.slice A0 n0 c0,.bool s1,.slice A1 n1 c1,.bool s2,.slice A2 n2 c2,.bool s3,.slice A3 n3 c3,.bool s4,.slice A4 n4 c4,.bool s5,.slice A5 n5 c5,.bool s6,.slice A6 n6 c6]) (hx:PI w s3 A3 n3 c3 x) (hy:PI w s4 A4 n4 c4 y) (lx:x.natAbs < lim) (ly:y.natAbs < lim) (lz:(x*y).natAbs < lim) :
  Calls Tryz.prog 187 #[.pointer (some ⟨gf,0,none⟩),.pointer (some ⟨gb,0,none⟩)] w (RetPE (x*y) 0 w):=by
 have HF:=hJ hf
 have HB:=hJ hb0
 have HX:=hJ hx
 have HY:=hJ hy
 have HL:=hJ (And.intro lx (And.intro ly lz))
 clear hf hb0 hx hy lx ly lz
 obtain ⟨x1,aC⟩:=nmz (w.alloc (.cells #[.bool false,.slice none 0 0] 25))
 have aB:=hJ (show Below w.heap.size w x1 by rw [←aC]; exact ((Below.refl _ _).alloc (Nat.le_refl _) _))
 have aJ:=hJ (show BX 25 x1 w.heap.size #[.bool false,.slice none 0 0] by rw [←aC]; exact (BX.at rfl))
 have aK:=hJ (show w.heap.size≤w.heap.size by omega)
 have aL:=hJ (BX.new HF.out aB.out)
 have aM:=aL.out.cell 0 rfl
 have aE:=hJ (BX.new HB.out aB.out)
 obtain ⟨aN,aO⟩:=aE.out.c2 6 7 rfl rfl
 obtain ⟨aP,aQ⟩:=aE.out.c2 8 9 rfl rfl
 have aF:=hJ (PIo.new HX.out aB.out)
 have aG:=hJ (PIo.new HY.out aB.out)
 go_enter Tryz.func187,Tryz.ntmps187
 go_wp2_with fail
 clear aC aM aN aO aP aQ
 refine (pmul_any x y s3 s4 A3 A4 n3 c3 n4 c4 x1 aF.out aG.out (Nat.le_trans (plim aF.out HL.out.1) (by decide)) (Nat.le_trans (plim aG.out HL.out.2.1) (by decide))).mono ?_
 rw [(in_lim HL.out.2.2).1,(in_lim HL.out.2.2).2]
 rintro e w7 ⟨s11,A11,n11,c11,rfl,hr11,hb⟩
 have aH:=hJ hb
 have aR:=hJ hr11
 clear hb hr11
 have aA:=hJ (BX.new aJ.out aH.out)
 have aS:=aA.out.frozen 0
 have aT:=aA.out.cell 0 rfl
 have aU:=aA.out.frozen 1
 have aV:=aA.out.cell 1 rfl
 obtain ⟨x8,aI⟩:=nmz (World.setCell (World.setCell w7 ⟨w.heap.size,0,none⟩ (.bool s11)) ⟨w.heap.size,1,none⟩ (.slice A11 n11 c11))
 have aD:=hJ (show sto w7 w.heap.size 0 [.bool s11,.slice A11 n11 c11]=x8 from aI)
 have aW:=hJ (show BX 25 x8 w.heap.size #[.bool s11,.slice A11 n11 c11] by rw [←aD.out]; exact BX.put aA.out _ _)
 have aX:=hJ (show Below w.heap.size w x8 by rw [←aD.out]; exact below_sto (bt aB.out aH.out) aK.out _ _)
 have aY:=hJ (show PI x8 s11 A11 n11 c11 (x*y) by rw [←aD.out]; exact PIo.sto aR.out aA.out rfl _ _)
 go_wp2
 clear aS aT aU aV aI
 exact bodyPost_ret (results_cell1 rfl _ _ _ _ _ _ _ rfl aW.out Tryz.underlying25 rfl W_size) rfl ⟨s11,A11,n11,c11,rfl,aY.out,aX.out⟩
theorem da7_any (x y:Int) (s0:Bool) (A0:Option Addr) (n0 c0:Nat) (s1:Bool) (A1:Option Addr) (n1 c1:Nat) (s2:Bool) (A2:Option Addr) (n2 c2:Nat) (s3:Bool) (A3:Option Addr) (n3 c3:Nat) (s4:Bool) (A4:Option Addr) (n4 c4:Nat) (s5:Bool) (A5:Option Addr) (n5 c5:Nat) (s6:Bool) (A6:Option Addr) (n6 c6:Nat) (gf gb:Nat) (w:World) (hf:BX 72 w gf #[.func (.func 130) #[] #[]]) (hb0:BX 239 w gb #[.bool s0,.slice A0 n0 c0,.bool s1,.slice A1 n1 c1,.bool s2,.slice A2 n2 c2,.bool s3,.slice A3 n3 c3,.bool s4,.slice A4 n4 c4,.bool s5,.slice A5 n5 c5,.bool s6,.slice A6 n6 c6]) (hx:PI w s2 A2 n2 c2 x) (hy:PI w s5 A5 n5 c5 y) (lx:x.natAbs < lim) (ly:y.natAbs < lim) (lz:(x - y).natAbs < lim) :
  Calls Tryz.prog 188 #[.pointer (some ⟨gf,0,none⟩),.pointer (some ⟨gb,0,none⟩)] w (RetPE (x - y) 0 w):=by
 have HF:=hJ hf
 have HB:=hJ hb0
 have HX:=hJ hx
 have HY:=hJ hy
 have HL:=hJ (And.intro lx (And.intro ly lz))
 clear hf hb0 hx hy lx ly lz
 obtain ⟨x1,aC⟩:=nmz (w.alloc (.cells #[.bool false,.slice none 0 0] 25))
 have aB:=hJ (show Below w.heap.size w x1 by rw [←aC]; exact ((Below.refl _ _).alloc (Nat.le_refl _) _))
 have aJ:=hJ (show BX 25 x1 w.heap.size #[.bool false,.slice none 0 0] by rw [←aC]; exact (BX.at rfl))
 have aK:=hJ (show w.heap.size≤w.heap.size by omega)
 have aL:=hJ (BX.new HF.out aB.out)
 have aM:=aL.out.cell 0 rfl
 have aE:=hJ (BX.new HB.out aB.out)
 obtain ⟨aN,aO⟩:=aE.out.c2 4 5 rfl rfl
 obtain ⟨aP,aQ⟩:=aE.out.c2 10 11 rfl rfl
 have aF:=hJ (PIo.new HX.out aB.out)
 have aG:=hJ (PIo.new HY.out aB.out)
 go_enter Tryz.func188,Tryz.ntmps188
 go_wp2_with fail
 clear aC aM aN aO aP aQ
 refine (psub_any x y s2 s5 A2 A5 n2 c2 n5 c5 x1 aF.out aG.out (Nat.le_trans (plim aF.out HL.out.1) (by decide)) (Nat.le_trans (plim aG.out HL.out.2.1) (by decide)) HL.out.1 HL.out.2.1).mono ?_
 rw [(in_lim HL.out.2.2).1,(in_lim HL.out.2.2).2]
 rintro e w7 ⟨s11,A11,n11,c11,rfl,hr11,hb⟩
 have aH:=hJ hb
 have aR:=hJ hr11
 clear hb hr11
 have aA:=hJ (BX.new aJ.out aH.out)
 have aS:=aA.out.frozen 0
 have aT:=aA.out.cell 0 rfl
 have aU:=aA.out.frozen 1
 have aV:=aA.out.cell 1 rfl
 obtain ⟨x8,aI⟩:=nmz (World.setCell (World.setCell w7 ⟨w.heap.size,0,none⟩ (.bool s11)) ⟨w.heap.size,1,none⟩ (.slice A11 n11 c11))
 have aD:=hJ (show sto w7 w.heap.size 0 [.bool s11,.slice A11 n11 c11]=x8 from aI)
 have aW:=hJ (show BX 25 x8 w.heap.size #[.bool s11,.slice A11 n11 c11] by rw [←aD.out]; exact BX.put aA.out _ _)
 have aX:=hJ (show Below w.heap.size w x8 by rw [←aD.out]; exact below_sto (bt aB.out aH.out) aK.out _ _)
 have aY:=hJ (show PI x8 s11 A11 n11 c11 (x - y) by rw [←aD.out]; exact PIo.sto aR.out aA.out rfl _ _)
 go_wp2
 clear aS aT aU aV aI
 exact bodyPost_ret (results_cell1 rfl _ _ _ _ _ _ _ rfl aW.out Tryz.underlying25 rfl W_size) rfl ⟨s11,A11,n11,c11,rfl,aY.out,aX.out⟩
theorem darea_any (xa ya xb yb xc yc:Int) (s0:Bool) (A0:Option Addr) (n0 c0:Nat) (s1:Bool) (A1:Option Addr) (n1 c1:Nat) (s2:Bool) (A2:Option Addr) (n2 c2:Nat) (s3:Bool) (A3:Option Addr) (n3 c3:Nat) (s4:Bool) (A4:Option Addr) (n4 c4:Nat) (s5:Bool) (A5:Option Addr) (n5 c5:Nat) (w:World) (h0:PI w s0 A0 n0 c0 xa) (h1:PI w s1 A1 n1 c1 ya) (h2:PI w s2 A2 n2 c2 xb) (h3:PI w s3 A3 n3 c3 yb) (h4:PI w s4 A4 n4 c4 xc) (h5:PI w s5 A5 n5 c5 yc) (hn:Nk 1180591620717411303424 xa∧Nk 1180591620717411303424 ya∧Nk 1180591620717411303424 xb∧Nk 1180591620717411303424 yb∧Nk 1180591620717411303424 xc∧Nk 1180591620717411303424 yc) :
  Calls Tryz.prog 129 #[.func (.func 130) #[] #[],.func (.func 42) #[] #[],.agg #[.bool s0,.slice A0 n0 c0,.bool s1,.slice A1 n1 c1],.agg #[.bool s2,.slice A2 n2 c2,.bool s3,.slice A3 n3 c3],.agg #[.bool s4,.slice A4 n4 c4,.bool s5,.slice A5 n5 c5]] w (RetPE ((xb - xa)*(yc - ya) - (yb - ya)*(xc - xa)) 0 w):=by
 have dJ:=hJ h0
 have dK:=hJ h1
 have dZ:=hJ h2
 have eA:=hJ h3
 have eB:=hJ h4
 have eC:=hJ h5
 have HN:=hJ hn
 clear hn h0 h1 h2 h3 h4 h5
 have HD:=hJ (show (Nk (2*1180591620717411303424) (xb - xa)∧Nk (2*1180591620717411303424) (yc - ya))∧(Nk (2*1180591620717411303424) (yb - ya)∧Nk (2*1180591620717411303424) (xc - xa)) by
  obtain ⟨n1,n2,n3,n4,n5,n6⟩:=HN.out
  unfold Nk at *
  omega)
 have HM:=hJ (show Nk (2*1180591620717411303424*(2*1180591620717411303424)) ((xb - xa)*(yc - ya))∧Nk (2*1180591620717411303424*(2*1180591620717411303424)) ((yb - ya)*(xc - xa)) from ⟨nk_mul HD.out.1.1 HD.out.1.2,nk_mul HD.out.2.1 HD.out.2.2⟩)
 have eD:=hJ (PI.zero w)
 obtain ⟨x1,cF⟩:=nmz ((((((w.alloc (.cells #[.func (.func 130) #[] #[]] 72)).alloc (.cells #[.func (.func 42) #[] #[]] 72)).alloc (.cells #[.bool s0,.slice A0 n0 c0,.bool s1,.slice A1 n1 c1] 190)).alloc (.cells #[.bool s2,.slice A2 n2 c2,.bool s3,.slice A3 n3 c3] 190)).alloc (.cells #[.bool s4,.slice A4 n4 c4,.bool s5,.slice A5 n5 c5] 190)).alloc (.cells #[.bool false,.slice none 0 0] 25))
 have dL:=hJ (show Below w.heap.size w x1 by rw [←cF]; exact (((((((Below.refl _ _).alloc (Nat.le_refl _) _).alloc (by simp only [World.size_alloc]; omega) _).alloc (by simp only [World.size_alloc]; omega) _).alloc (by simp only [World.size_alloc]; omega) _).alloc (by simp only [World.size_alloc]; omega) _).alloc (by simp only [World.size_alloc]; omega) _))
 have cY:=hJ (show BX 72 x1 w.heap.size #[.func (.func 130) #[] #[]] by rw [←cF]; exact ((((((BX.at rfl).alloc _).alloc _).alloc _).alloc _).alloc _))
 have dM:=hJ (show BX 72 x1 (w.heap.size+1) #[.func (.func 42) #[] #[]] by rw [←cF]; exact (((((BX.at (by simp only [World.size_alloc])).alloc _).alloc _).alloc _).alloc _))
 have cZ:=hJ (show BX 190 x1 (w.heap.size+2) #[.bool s0,.slice A0 n0 c0,.bool s1,.slice A1 n1 c1] by rw [←cF]; exact ((((BX.at (by simp only [World.size_alloc])).alloc _).alloc _).alloc _))
 have dN:=hJ (show BX 190 x1 (w.heap.size+3) #[.bool s2,.slice A2 n2 c2,.bool s3,.slice A3 n3 c3] by rw [←cF]; exact (((BX.at (by simp only [World.size_alloc])).alloc _).alloc _))
 have dO:=hJ (show BX 190 x1 (w.heap.size+4) #[.bool s4,.slice A4 n4 c4,.bool s5,.slice A5 n5 c5] by rw [←cF]; exact ((BX.at (by simp only [World.size_alloc])).alloc _))
 have eE:=hJ (show BX 25 x1 (w.heap.size+5) #[.bool false,.slice none 0 0] by rw [←cF]; exact (BX.at (by simp only [World.size_alloc])))
 have eF:=hJ (show w.heap.size≤w.heap.size+5 by omega)
 obtain ⟨x2,dA⟩:=nmz ((x1.alloc (.cells #[.bool false,.slice none 0 0,.bool false,.slice none 0 0,.bool false,.slice none 0 0,.bool false,.slice none 0 0,.bool false,.slice none 0 0,.bool false,.slice none 0 0,.bool false,.slice none 0 0] 239)).alloc (.cells #[.func (.func 182) #[] #[.pointer (some ⟨w.heap.size,0,none⟩),.pointer (some ⟨w.heap.size+3,0,none⟩),.pointer (some ⟨w.heap.size+2,0,none⟩)],.func (.func 183) #[] #[.pointer (some ⟨w.heap.size,0,none⟩),.pointer (some ⟨w.heap.size+4,0,none⟩),.pointer (some ⟨w.heap.size+2,0,none⟩)],.func (.func 184) #[] #[.pointer (some ⟨w.heap.size+1,0,none⟩),.pointer (some ⟨x1.heap.size,0,none⟩)],.func (.func 185) #[] #[.pointer (some ⟨w.heap.size,0,none⟩),.pointer (some ⟨w.heap.size+3,0,none⟩),.pointer (some ⟨w.heap.size+2,0,none⟩)],.func (.func 186) #[] #[.pointer (some ⟨w.heap.size,0,none⟩),.pointer (some ⟨w.heap.size+4,0,none⟩),.pointer (some ⟨w.heap.size+2,0,none⟩)],.func (.func 187) #[] #[.pointer (some ⟨w.heap.size+1,0,none⟩),.pointer (some ⟨x1.heap.size,0,none⟩)],.func (.func 188) #[] #[.pointer (some ⟨w.heap.size,0,none⟩),.pointer (some ⟨x1.heap.size,0,none⟩)]] 241))
 have dP:=hJ (show Below x1.heap.size x1 x2 by rw [←dA]; exact (((Below.refl _ _).alloc (Nat.le_refl _) _).alloc (by simp only [World.size_alloc]; omega) _))
 have eG:=hJ (show BX 239 x2 x1.heap.size #[.bool false,.slice none 0 0,.bool false,.slice none 0 0,.bool false,.slice none 0 0,.bool false,.slice none 0 0,.bool false,.slice none 0 0,.bool false,.slice none 0 0,.bool false,.slice none 0 0] by rw [←dA]; exact ((BX.at rfl).alloc _))
 have cN:=hJ (show x1.heap.size≤x1.heap.size by omega)
 have dB:=hJ (show BX 241 x2 (x1.heap.size+1) #[.func (.func 182) #[] #[.pointer (some ⟨w.heap.size,0,none⟩),.pointer (some ⟨w.heap.size+3,0,none⟩),.pointer (some ⟨w.heap.size+2,0,none⟩)],.func (.func 183) #[] #[.pointer (some ⟨w.heap.size,0,none⟩),.pointer (some ⟨w.heap.size+4,0,none⟩),.pointer (some ⟨w.heap.size+2,0,none⟩)],.func (.func 184) #[] #[.pointer (some ⟨w.heap.size+1,0,none⟩),.pointer (some ⟨x1.heap.size,0,none⟩)],.func (.func 185) #[] #[.pointer (some ⟨w.heap.size,0,none⟩),.pointer (some ⟨w.heap.size+3,0,none⟩),.pointer (some ⟨w.heap.size+2,0,none⟩)],.func (.func 186) #[] #[.pointer (some ⟨w.heap.size,0,none⟩),.pointer (some ⟨w.heap.size+4,0,none⟩),.pointer (some ⟨w.heap.size+2,0,none⟩)],.func (.func 187) #[] #[.pointer (some ⟨w.heap.size+1,0,none⟩),.pointer (some ⟨x1.heap.size,0,none⟩)],.func (.func 188) #[] #[.pointer (some ⟨w.heap.size,0,none⟩),.pointer (some ⟨x1.heap.size,0,none⟩)]] by rw [←dA]; exact (BX.at (by simp only [World.size_alloc])))
 obtain ⟨eH,eI,eJ,eK⟩:=dB.out.q4 0 1 2 3
 have eL:=dB.out.cell 4 rfl
 have eM:=dB.out.cell 5 rfl
 have eN:=dB.out.cell 6 rfl
 have eO:=hJ (bt dL.out dP.out)
 have cO:=hJ (PIo.new eD.out eO.out)
 go_enter Tryz.func129,Tryz.ntmps129
 go_wp2_with fail
 clear cF dA eH eI eJ eK eL eM eN
 go_loopw [27] (fun tv wr=>∃ (i:Nat) (aG:Bool) (aH:Option Addr) (aI:Nat) (aJ:Nat) (aK:Bool) (aL:Option Addr) (aM:Nat) (aN:Nat) (aO:Bool) (aP:Option Addr) (aQ:Nat) (aR:Nat) (aS:Bool) (aT:Option Addr) (aU:Nat) (aV:Nat) (aW:Bool) (aX:Option Addr) (aY:Nat) (aZ:Nat) (bA:Bool) (bB:Option Addr) (bC:Nat) (bD:Nat) (aB:Bool) (aC:Option Addr) (aD:Nat) (aE:Nat) (z0_10:Int) (z1_10:Int) (z2_10:Int) (z3_10:Int) (z4_10:Int) (z5_10:Int) (z6_10:Int),i≤7∧tv=.int .i64 (i:Int)∧BX 239 wr x1.heap.size #[.bool aG,.slice aH aI aJ,.bool aK,.slice aL aM aN,.bool aO,.slice aP aQ aR,.bool aS,.slice aT aU aV,.bool aW,.slice aX aY aZ,.bool bA,.slice bB bC bD,.bool aB,.slice aC aD aE]∧PI wr aG aH aI aJ z0_10∧PI wr aK aL aM aN z1_10∧PI wr aO aP aQ aR z2_10∧PI wr aS aT aU aV z3_10∧PI wr aW aX aY aZ z4_10∧PI wr bA bB bC bD z5_10∧PI wr aB aC aD aE z6_10∧Hid ((0 < i→z0_10=xb - xa)∧(1 < i→z1_10=yc - ya)∧(2 < i→z2_10=(xb - xa)*(yc - ya))∧(3 < i→z3_10=yb - ya)∧(4 < i→z4_10=xc - xa)∧(5 < i→z5_10=(yb - ya)*(xc - xa))∧(6 < i→z6_10=((xb - xa)*(yc - ya)) - ((yb - ya)*(xc - xa))))∧Below x1.heap.size x1 wr) (fun tv _=>7 - (intOf tv).toNat)
 case atStart=>exact ⟨0,false,none,0,0,false,none,0,0,false,none,0,0,false,none,0,0,false,none,0,0,false,none,0,0,false,none,0,0,0,0,0,0,0,0,0,by omega,rfl,eG.out,cO.out,cO.out,cO.out,cO.out,cO.out,cO.out,cO.out,hJ (⟨fun h=>absurd h (by decide),fun h=>absurd h (by decide),fun h=>absurd h (by decide),fun h=>absurd h (by decide),fun h=>absurd h (by decide),fun h=>absurd h (by decide),fun h=>absurd h (by decide)⟩),dP.out⟩
 case round =>
  obtain ⟨i10,aG,aH,aI,aJ,aK,aL,aM,aN,aO,aP,aQ,aR,aS,aT,aU,aV,aW,aX,aY,aZ,bA,bB,bC,bD,aB,aC,aD,aE,z0_10,z1_10,z2_10,z3_10,z4_10,z5_10,z6_10,hi,rfl,hz10_0,hz10_1,hz10_2,hz10_3,hz10_4,hz10_5,hz10_6,hz10_7,aF,hbel⟩:=hrel
  obtain ⟨wl10,rfl⟩:∃ W:World,W=wr:=⟨_,rfl⟩
  have bE:=hJ hbel
  have bH:=hJ hz10_0
  have cP:=hJ hz10_1
  have cQ:=hJ hz10_2
  have cR:=hJ hz10_3
  have cS:=hJ hz10_4
  have cT:=hJ hz10_5
  have cU:=hJ hz10_6
  have cV:=hJ hz10_7
  clear hbel hz10_0 hz10_1 hz10_2 hz10_3 hz10_4 hz10_5 hz10_6 hz10_7
  have bW:=hJ (bt dL.out bE.out)
  have hcs:i10=0∨i10=1∨i10=2∨i10=3∨i10=4∨i10=5∨i10=6∨i10=7:=by omega
  clear hi
  rcases hcs with rfl | rfl | rfl | rfl | rfl | rfl | rfl | rfl
  ·(try rw [show ((0:Nat):Int)=0 from rfl])
   have hix:∀ wx,(Instr.index 241 (.agg #[.func (.func 182) #[] #[.pointer (some ⟨w.heap.size,0,none⟩),.pointer (some ⟨w.heap.size+3,0,none⟩),.pointer (some ⟨w.heap.size+2,0,none⟩)],.func (.func 183) #[] #[.pointer (some ⟨w.heap.size,0,none⟩),.pointer (some ⟨w.heap.size+4,0,none⟩),.pointer (some ⟨w.heap.size+2,0,none⟩)],.func (.func 184) #[] #[.pointer (some ⟨w.heap.size+1,0,none⟩),.pointer (some ⟨x1.heap.size,0,none⟩)],.func (.func 185) #[] #[.pointer (some ⟨w.heap.size,0,none⟩),.pointer (some ⟨w.heap.size+3,0,none⟩),.pointer (some ⟨w.heap.size+2,0,none⟩)],.func (.func 186) #[] #[.pointer (some ⟨w.heap.size,0,none⟩),.pointer (some ⟨w.heap.size+4,0,none⟩),.pointer (some ⟨w.heap.size+2,0,none⟩)],.func (.func 187) #[] #[.pointer (some ⟨w.heap.size+1,0,none⟩),.pointer (some ⟨x1.heap.size,0,none⟩)],.func (.func 188) #[] #[.pointer (some ⟨w.heap.size,0,none⟩),.pointer (some ⟨x1.heap.size,0,none⟩)]]) (.int .i64 0)).run Tryz.prog wx=.ok (.func (.func 182) #[] #[.pointer (some ⟨w.heap.size,0,none⟩),.pointer (some ⟨w.heap.size+3,0,none⟩),.pointer (some ⟨w.heap.size+2,0,none⟩)]) wx:=fun wx=>fx7_0 wx
   have bX:=hJ (BX.new cY.out bE.out)
   have dD:=hJ (BX.new dN.out bE.out)
   have cW:=hJ (BX.new cZ.out bE.out)
   have eP:=hJ (PIo.new dZ.out bW.out)
   have dE:=hJ (PIo.new dJ.out bW.out)
   go_wp2_with fail
   clear hix
   refine (da1_any xb xa s2 A2 n2 c2 s3 A3 n3 c3 s0 A0 n0 c0 s1 A1 n1 c1 w.heap.size (w.heap.size+3) (w.heap.size+2) wl10 bX.out dD.out cW.out eP.out dE.out (nk_lim HN.out.2.2.1) (nk_lim HN.out.1) (nk_lim HD.out.1.1)).mono ?_
   rintro e w11 ⟨s11,A11,n11,c11,rfl,hr11,hb⟩
   have cG:=hJ hb
   have eQ:=hJ hr11
   clear hb hr11
   have aA:=hJ (BX.new bH.out cG.out)
   have eR:=aA.out.frozen 0
   have eS:=aA.out.cell 0 rfl
   have eT:=aA.out.frozen 1
   have eU:=aA.out.cell 1 rfl
   obtain ⟨x12,dQ⟩:=nmz (World.setCell (World.setCell w11 ⟨x1.heap.size,0,none⟩ (.bool s11)) ⟨x1.heap.size,1,none⟩ (.slice A11 n11 c11))
   have bY:=hJ (show sto w11 x1.heap.size 0 [.bool s11,.slice A11 n11 c11]=x12 from dQ)
   have eV:=hJ (show BX 239 x12 x1.heap.size #[.bool s11,.slice A11 n11 c11,.bool aK,.slice aL aM aN,.bool aO,.slice aP aQ aR,.bool aS,.slice aT aU aV,.bool aW,.slice aX aY aZ,.bool bA,.slice bB bC bD,.bool aB,.slice aC aD aE] by rw [←bY.out]; exact BX.put aA.out _ _)
   have eW:=hJ (show PI x12 s11 A11 n11 c11 (xb - xa) by rw [←bY.out]; exact PIo.sto eQ.out aA.out rfl _ _)
   have bJ:=hJ (PIo.new cQ.out cG.out)
   have bK:=hJ (show PI x12 aK aL aM aN z1_10 by rw [←bY.out]; exact PIo.sto bJ.out aA.out rfl _ _)
   have bL:=hJ (PIo.new cR.out cG.out)
   have bM:=hJ (show PI x12 aO aP aQ aR z2_10 by rw [←bY.out]; exact PIo.sto bL.out aA.out rfl _ _)
   have bN:=hJ (PIo.new cS.out cG.out)
   have bO:=hJ (show PI x12 aS aT aU aV z3_10 by rw [←bY.out]; exact PIo.sto bN.out aA.out rfl _ _)
   have bP:=hJ (PIo.new cT.out cG.out)
   have bQ:=hJ (show PI x12 aW aX aY aZ z4_10 by rw [←bY.out]; exact PIo.sto bP.out aA.out rfl _ _)
   have bR:=hJ (PIo.new cU.out cG.out)
   have bS:=hJ (show PI x12 bA bB bC bD z5_10 by rw [←bY.out]; exact PIo.sto bR.out aA.out rfl _ _)
   have bF:=hJ (PIo.new cV.out cG.out)
   have bT:=hJ (show PI x12 aB aC aD aE z6_10 by rw [←bY.out]; exact PIo.sto bF.out aA.out rfl _ _)
   have bG:=hJ (show Below x1.heap.size x1 x12 by rw [←bY.out]; exact below_sto (bt bE.out cG.out) cN.out _ _)
   go_wp2_with fail
   clear eR eS eT eU dQ
   go_roundw
   case rel=>exact ⟨0+1,s11,A11,n11,c11,aK,aL,aM,aN,aO,aP,aQ,aR,aS,aT,aU,aV,aW,aX,aY,aZ,bA,bB,bC,bD,aB,aC,aD,aE,(xb - xa),z1_10,z2_10,z3_10,z4_10,z5_10,z6_10,by omega,by go_num,eV.out,eW.out,bK.out,bM.out,bO.out,bQ.out,bS.out,bT.out,hJ (⟨fun _=>rfl,fun h=>absurd h (by decide),fun h=>absurd h (by decide),fun h=>absurd h (by decide),fun h=>absurd h (by decide),fun h=>absurd h (by decide),fun h=>absurd h (by decide)⟩),bG.out⟩
   case measure=>simp [intOf] <;> omega
  ·(try rw [show ((1:Nat):Int)=1 from rfl])
   obtain rfl:xb - xa=z0_10:=(aF.out.1 (by decide)).symm
   have hix:∀ wx,(Instr.index 241 (.agg #[.func (.func 182) #[] #[.pointer (some ⟨w.heap.size,0,none⟩),.pointer (some ⟨w.heap.size+3,0,none⟩),.pointer (some ⟨w.heap.size+2,0,none⟩)],.func (.func 183) #[] #[.pointer (some ⟨w.heap.size,0,none⟩),.pointer (some ⟨w.heap.size+4,0,none⟩),.pointer (some ⟨w.heap.size+2,0,none⟩)],.func (.func 184) #[] #[.pointer (some ⟨w.heap.size+1,0,none⟩),.pointer (some ⟨x1.heap.size,0,none⟩)],.func (.func 185) #[] #[.pointer (some ⟨w.heap.size,0,none⟩),.pointer (some ⟨w.heap.size+3,0,none⟩),.pointer (some ⟨w.heap.size+2,0,none⟩)],.func (.func 186) #[] #[.pointer (some ⟨w.heap.size,0,none⟩),.pointer (some ⟨w.heap.size+4,0,none⟩),.pointer (some ⟨w.heap.size+2,0,none⟩)],.func (.func 187) #[] #[.pointer (some ⟨w.heap.size+1,0,none⟩),.pointer (some ⟨x1.heap.size,0,none⟩)],.func (.func 188) #[] #[.pointer (some ⟨w.heap.size,0,none⟩),.pointer (some ⟨x1.heap.size,0,none⟩)]]) (.int .i64 1)).run Tryz.prog wx=.ok (.func (.func 183) #[] #[.pointer (some ⟨w.heap.size,0,none⟩),.pointer (some ⟨w.heap.size+4,0,none⟩),.pointer (some ⟨w.heap.size+2,0,none⟩)]) wx:=fun wx=>fx7_1 wx
   have bX:=hJ (BX.new cY.out bE.out)
   have dF:=hJ (BX.new dO.out bE.out)
   have cW:=hJ (BX.new cZ.out bE.out)
   have eX:=hJ (PIo.new eC.out bW.out)
   have dG:=hJ (PIo.new dK.out bW.out)
   go_wp2_with fail
   clear hix
   refine (da2_any yc ya s4 A4 n4 c4 s5 A5 n5 c5 s0 A0 n0 c0 s1 A1 n1 c1 w.heap.size (w.heap.size+4) (w.heap.size+2) wl10 bX.out dF.out cW.out eX.out dG.out (nk_lim HN.out.2.2.2.2.2) (nk_lim HN.out.2.1) (nk_lim HD.out.1.2)).mono ?_
   rintro e w13 ⟨s12,A12,n12,c12,rfl,hr12,hb⟩
   have cH:=hJ hb
   have eY:=hJ hr12
   clear hb hr12
   have aA:=hJ (BX.new bH.out cH.out)
   have eZ:=aA.out.frozen 2
   have fA:=aA.out.cell 2 rfl
   have fB:=aA.out.frozen 3
   have fC:=aA.out.cell 3 rfl
   obtain ⟨x14,dR⟩:=nmz (World.setCell (World.setCell w13 ⟨x1.heap.size,2,none⟩ (.bool s12)) ⟨x1.heap.size,3,none⟩ (.slice A12 n12 c12))
   have bZ:=hJ (show sto w13 x1.heap.size 2 [.bool s12,.slice A12 n12 c12]=x14 from dR)
   have fD:=hJ (show BX 239 x14 x1.heap.size #[.bool aG,.slice aH aI aJ,.bool s12,.slice A12 n12 c12,.bool aO,.slice aP aQ aR,.bool aS,.slice aT aU aV,.bool aW,.slice aX aY aZ,.bool bA,.slice bB bC bD,.bool aB,.slice aC aD aE] by rw [←bZ.out]; exact BX.put aA.out _ _)
   have bU:=hJ (PIo.new cP.out cH.out)
   have bV:=hJ (show PI x14 aG aH aI aJ (xb - xa) by rw [←bZ.out]; exact PIo.sto bU.out aA.out rfl _ _)
   have fE:=hJ (show PI x14 s12 A12 n12 c12 (yc - ya) by rw [←bZ.out]; exact PIo.sto eY.out aA.out rfl _ _)
   have bL:=hJ (PIo.new cR.out cH.out)
   have bM:=hJ (show PI x14 aO aP aQ aR z2_10 by rw [←bZ.out]; exact PIo.sto bL.out aA.out rfl _ _)
   have bN:=hJ (PIo.new cS.out cH.out)
   have bO:=hJ (show PI x14 aS aT aU aV z3_10 by rw [←bZ.out]; exact PIo.sto bN.out aA.out rfl _ _)
   have bP:=hJ (PIo.new cT.out cH.out)
   have bQ:=hJ (show PI x14 aW aX aY aZ z4_10 by rw [←bZ.out]; exact PIo.sto bP.out aA.out rfl _ _)
   have bR:=hJ (PIo.new cU.out cH.out)
   have bS:=hJ (show PI x14 bA bB bC bD z5_10 by rw [←bZ.out]; exact PIo.sto bR.out aA.out rfl _ _)
   have bF:=hJ (PIo.new cV.out cH.out)
   have bT:=hJ (show PI x14 aB aC aD aE z6_10 by rw [←bZ.out]; exact PIo.sto bF.out aA.out rfl _ _)
   have bG:=hJ (show Below x1.heap.size x1 x14 by rw [←bZ.out]; exact below_sto (bt bE.out cH.out) cN.out _ _)
   go_wp2_with fail
   clear eZ fA fB fC dR
   go_roundw
   case rel=>exact ⟨1+1,aG,aH,aI,aJ,s12,A12,n12,c12,aO,aP,aQ,aR,aS,aT,aU,aV,aW,aX,aY,aZ,bA,bB,bC,bD,aB,aC,aD,aE,(xb - xa),(yc - ya),z2_10,z3_10,z4_10,z5_10,z6_10,by omega,by go_num,fD.out,bV.out,fE.out,bM.out,bO.out,bQ.out,bS.out,bT.out,hJ (⟨fun _=>rfl,fun _=>rfl,fun h=>absurd h (by decide),fun h=>absurd h (by decide),fun h=>absurd h (by decide),fun h=>absurd h (by decide),fun h=>absurd h (by decide)⟩),bG.out⟩
   case measure=>simp [intOf] <;> omega
  ·(try rw [show ((2:Nat):Int)=2 from rfl])
   obtain rfl:xb - xa=z0_10:=(aF.out.1 (by decide)).symm
   obtain rfl:yc - ya=z1_10:=(aF.out.2.1 (by decide)).symm
   have hix:∀ wx,(Instr.index 241 (.agg #[.func (.func 182) #[] #[.pointer (some ⟨w.heap.size,0,none⟩),.pointer (some ⟨w.heap.size+3,0,none⟩),.pointer (some ⟨w.heap.size+2,0,none⟩)],.func (.func 183) #[] #[.pointer (some ⟨w.heap.size,0,none⟩),.pointer (some ⟨w.heap.size+4,0,none⟩),.pointer (some ⟨w.heap.size+2,0,none⟩)],.func (.func 184) #[] #[.pointer (some ⟨w.heap.size+1,0,none⟩),.pointer (some ⟨x1.heap.size,0,none⟩)],.func (.func 185) #[] #[.pointer (some ⟨w.heap.size,0,none⟩),.pointer (some ⟨w.heap.size+3,0,none⟩),.pointer (some ⟨w.heap.size+2,0,none⟩)],.func (.func 186) #[] #[.pointer (some ⟨w.heap.size,0,none⟩),.pointer (some ⟨w.heap.size+4,0,none⟩),.pointer (some ⟨w.heap.size+2,0,none⟩)],.func (.func 187) #[] #[.pointer (some ⟨w.heap.size+1,0,none⟩),.pointer (some ⟨x1.heap.size,0,none⟩)],.func (.func 188) #[] #[.pointer (some ⟨w.heap.size,0,none⟩),.pointer (some ⟨x1.heap.size,0,none⟩)]]) (.int .i64 2)).run Tryz.prog wx=.ok (.func (.func 184) #[] #[.pointer (some ⟨w.heap.size+1,0,none⟩),.pointer (some ⟨x1.heap.size,0,none⟩)]) wx:=fun wx=>fx7_2 wx
   have dH:=hJ (BX.new dM.out bE.out)
   go_wp2_with fail
   clear hix
   refine (da3_any (xb - xa) (yc - ya) aG aH aI aJ aK aL aM aN aO aP aQ aR aS aT aU aV aW aX aY aZ bA bB bC bD aB aC aD aE (w.heap.size+1) x1.heap.size wl10 dH.out bH.out cP.out cQ.out (nk_lim HD.out.1.1) (nk_lim HD.out.1.2) (nk_lim HM.out.1)).mono ?_
   rintro e w15 ⟨s13,A13,n13,c13,rfl,hr13,hb⟩
   have cI:=hJ hb
   have fF:=hJ hr13
   clear hb hr13
   have aA:=hJ (BX.new bH.out cI.out)
   have fG:=aA.out.frozen 4
   have fH:=aA.out.cell 4 rfl
   have fI:=aA.out.frozen 5
   have fJ:=aA.out.cell 5 rfl
   obtain ⟨x16,dS⟩:=nmz (World.setCell (World.setCell w15 ⟨x1.heap.size,4,none⟩ (.bool s13)) ⟨x1.heap.size,5,none⟩ (.slice A13 n13 c13))
   have cA:=hJ (show sto w15 x1.heap.size 4 [.bool s13,.slice A13 n13 c13]=x16 from dS)
   have fK:=hJ (show BX 239 x16 x1.heap.size #[.bool aG,.slice aH aI aJ,.bool aK,.slice aL aM aN,.bool s13,.slice A13 n13 c13,.bool aS,.slice aT aU aV,.bool aW,.slice aX aY aZ,.bool bA,.slice bB bC bD,.bool aB,.slice aC aD aE] by rw [←cA.out]; exact BX.put aA.out _ _)
   have bU:=hJ (PIo.new cP.out cI.out)
   have bV:=hJ (show PI x16 aG aH aI aJ (xb - xa) by rw [←cA.out]; exact PIo.sto bU.out aA.out rfl _ _)
   have bJ:=hJ (PIo.new cQ.out cI.out)
   have bK:=hJ (show PI x16 aK aL aM aN (yc - ya) by rw [←cA.out]; exact PIo.sto bJ.out aA.out rfl _ _)
   have fL:=hJ (show PI x16 s13 A13 n13 c13 ((xb - xa)*(yc - ya)) by rw [←cA.out]; exact PIo.sto fF.out aA.out rfl _ _)
   have bN:=hJ (PIo.new cS.out cI.out)
   have bO:=hJ (show PI x16 aS aT aU aV z3_10 by rw [←cA.out]; exact PIo.sto bN.out aA.out rfl _ _)
   have bP:=hJ (PIo.new cT.out cI.out)
   have bQ:=hJ (show PI x16 aW aX aY aZ z4_10 by rw [←cA.out]; exact PIo.sto bP.out aA.out rfl _ _)
   have bR:=hJ (PIo.new cU.out cI.out)
   have bS:=hJ (show PI x16 bA bB bC bD z5_10 by rw [←cA.out]; exact PIo.sto bR.out aA.out rfl _ _)
   have bF:=hJ (PIo.new cV.out cI.out)
   have bT:=hJ (show PI x16 aB aC aD aE z6_10 by rw [←cA.out]; exact PIo.sto bF.out aA.out rfl _ _)
   have bG:=hJ (show Below x1.heap.size x1 x16 by rw [←cA.out]; exact below_sto (bt bE.out cI.out) cN.out _ _)
   go_wp2_with fail
   clear fG fH fI fJ dS
   go_roundw
   case rel=>exact ⟨2+1,aG,aH,aI,aJ,aK,aL,aM,aN,s13,A13,n13,c13,aS,aT,aU,aV,aW,aX,aY,aZ,bA,bB,bC,bD,aB,aC,aD,aE,(xb - xa),(yc - ya),((xb - xa)*(yc - ya)),z3_10,z4_10,z5_10,z6_10,by omega,by go_num,fK.out,bV.out,bK.out,fL.out,bO.out,bQ.out,bS.out,bT.out,hJ (⟨fun _=>rfl,fun _=>rfl,fun _=>rfl,fun h=>absurd h (by decide),fun h=>absurd h (by decide),fun h=>absurd h (by decide),fun h=>absurd h (by decide)⟩),bG.out⟩
   case measure=>simp [intOf] <;> omega
  ·(try rw [show ((3:Nat):Int)=3 from rfl])
   obtain rfl:xb - xa=z0_10:=(aF.out.1 (by decide)).symm
   obtain rfl:yc - ya=z1_10:=(aF.out.2.1 (by decide)).symm
   obtain rfl:(xb - xa)*(yc - ya)=z2_10:=(aF.out.2.2.1 (by decide)).symm
   have hix:∀ wx,(Instr.index 241 (.agg #[.func (.func 182) #[] #[.pointer (some ⟨w.heap.size,0,none⟩),.pointer (some ⟨w.heap.size+3,0,none⟩),.pointer (some ⟨w.heap.size+2,0,none⟩)],.func (.func 183) #[] #[.pointer (some ⟨w.heap.size,0,none⟩),.pointer (some ⟨w.heap.size+4,0,none⟩),.pointer (some ⟨w.heap.size+2,0,none⟩)],.func (.func 184) #[] #[.pointer (some ⟨w.heap.size+1,0,none⟩),.pointer (some ⟨x1.heap.size,0,none⟩)],.func (.func 185) #[] #[.pointer (some ⟨w.heap.size,0,none⟩),.pointer (some ⟨w.heap.size+3,0,none⟩),.pointer (some ⟨w.heap.size+2,0,none⟩)],.func (.func 186) #[] #[.pointer (some ⟨w.heap.size,0,none⟩),.pointer (some ⟨w.heap.size+4,0,none⟩),.pointer (some ⟨w.heap.size+2,0,none⟩)],.func (.func 187) #[] #[.pointer (some ⟨w.heap.size+1,0,none⟩),.pointer (some ⟨x1.heap.size,0,none⟩)],.func (.func 188) #[] #[.pointer (some ⟨w.heap.size,0,none⟩),.pointer (some ⟨x1.heap.size,0,none⟩)]]) (.int .i64 3)).run Tryz.prog wx=.ok (.func (.func 185) #[] #[.pointer (some ⟨w.heap.size,0,none⟩),.pointer (some ⟨w.heap.size+3,0,none⟩),.pointer (some ⟨w.heap.size+2,0,none⟩)]) wx:=fun wx=>fx7_3 wx
   have bX:=hJ (BX.new cY.out bE.out)
   have dD:=hJ (BX.new dN.out bE.out)
   have cW:=hJ (BX.new cZ.out bE.out)
   have fM:=hJ (PIo.new eA.out bW.out)
   have dG:=hJ (PIo.new dK.out bW.out)
   go_wp2_with fail
   clear hix
   refine (da4_any yb ya s2 A2 n2 c2 s3 A3 n3 c3 s0 A0 n0 c0 s1 A1 n1 c1 w.heap.size (w.heap.size+3) (w.heap.size+2) wl10 bX.out dD.out cW.out fM.out dG.out (nk_lim HN.out.2.2.2.1) (nk_lim HN.out.2.1) (nk_lim HD.out.2.1)).mono ?_
   rintro e w17 ⟨s14,A14,n14,c14,rfl,hr14,hb⟩
   have cJ:=hJ hb
   have fN:=hJ hr14
   clear hb hr14
   have aA:=hJ (BX.new bH.out cJ.out)
   have fO:=aA.out.frozen 6
   have fP:=aA.out.cell 6 rfl
   have fQ:=aA.out.frozen 7
   have fR:=aA.out.cell 7 rfl
   obtain ⟨x18,dT⟩:=nmz (World.setCell (World.setCell w17 ⟨x1.heap.size,6,none⟩ (.bool s14)) ⟨x1.heap.size,7,none⟩ (.slice A14 n14 c14))
   have cB:=hJ (show sto w17 x1.heap.size 6 [.bool s14,.slice A14 n14 c14]=x18 from dT)
   have fS:=hJ (show BX 239 x18 x1.heap.size #[.bool aG,.slice aH aI aJ,.bool aK,.slice aL aM aN,.bool aO,.slice aP aQ aR,.bool s14,.slice A14 n14 c14,.bool aW,.slice aX aY aZ,.bool bA,.slice bB bC bD,.bool aB,.slice aC aD aE] by rw [←cB.out]; exact BX.put aA.out _ _)
   have bU:=hJ (PIo.new cP.out cJ.out)
   have bV:=hJ (show PI x18 aG aH aI aJ (xb - xa) by rw [←cB.out]; exact PIo.sto bU.out aA.out rfl _ _)
   have bJ:=hJ (PIo.new cQ.out cJ.out)
   have bK:=hJ (show PI x18 aK aL aM aN (yc - ya) by rw [←cB.out]; exact PIo.sto bJ.out aA.out rfl _ _)
   have bL:=hJ (PIo.new cR.out cJ.out)
   have bM:=hJ (show PI x18 aO aP aQ aR ((xb - xa)*(yc - ya)) by rw [←cB.out]; exact PIo.sto bL.out aA.out rfl _ _)
   have fT:=hJ (show PI x18 s14 A14 n14 c14 (yb - ya) by rw [←cB.out]; exact PIo.sto fN.out aA.out rfl _ _)
   have bP:=hJ (PIo.new cT.out cJ.out)
   have bQ:=hJ (show PI x18 aW aX aY aZ z4_10 by rw [←cB.out]; exact PIo.sto bP.out aA.out rfl _ _)
   have bR:=hJ (PIo.new cU.out cJ.out)
   have bS:=hJ (show PI x18 bA bB bC bD z5_10 by rw [←cB.out]; exact PIo.sto bR.out aA.out rfl _ _)
   have bF:=hJ (PIo.new cV.out cJ.out)
   have bT:=hJ (show PI x18 aB aC aD aE z6_10 by rw [←cB.out]; exact PIo.sto bF.out aA.out rfl _ _)
   have bG:=hJ (show Below x1.heap.size x1 x18 by rw [←cB.out]; exact below_sto (bt bE.out cJ.out) cN.out _ _)
   go_wp2_with fail
   clear fO fP fQ fR dT
   go_roundw
   case rel=>exact ⟨3+1,aG,aH,aI,aJ,aK,aL,aM,aN,aO,aP,aQ,aR,s14,A14,n14,c14,aW,aX,aY,aZ,bA,bB,bC,bD,aB,aC,aD,aE,(xb - xa),(yc - ya),((xb - xa)*(yc - ya)),(yb - ya),z4_10,z5_10,z6_10,by omega,by go_num,fS.out,bV.out,bK.out,bM.out,fT.out,bQ.out,bS.out,bT.out,hJ (⟨fun _=>rfl,fun _=>rfl,fun _=>rfl,fun _=>rfl,fun h=>absurd h (by decide),fun h=>absurd h (by decide),fun h=>absurd h (by decide)⟩),bG.out⟩
   case measure=>simp [intOf] <;> omega
  ·(try rw [show ((4:Nat):Int)=4 from rfl])
   obtain rfl:xb - xa=z0_10:=(aF.out.1 (by decide)).symm
   obtain rfl:yc - ya=z1_10:=(aF.out.2.1 (by decide)).symm
   obtain rfl:(xb - xa)*(yc - ya)=z2_10:=(aF.out.2.2.1 (by decide)).symm
   obtain rfl:yb - ya=z3_10:=(aF.out.2.2.2.1 (by decide)).symm
   have hix:∀ wx,(Instr.index 241 (.agg #[.func (.func 182) #[] #[.pointer (some ⟨w.heap.size,0,none⟩),.pointer (some ⟨w.heap.size+3,0,none⟩),.pointer (some ⟨w.heap.size+2,0,none⟩)],.func (.func 183) #[] #[.pointer (some ⟨w.heap.size,0,none⟩),.pointer (some ⟨w.heap.size+4,0,none⟩),.pointer (some ⟨w.heap.size+2,0,none⟩)],.func (.func 184) #[] #[.pointer (some ⟨w.heap.size+1,0,none⟩),.pointer (some ⟨x1.heap.size,0,none⟩)],.func (.func 185) #[] #[.pointer (some ⟨w.heap.size,0,none⟩),.pointer (some ⟨w.heap.size+3,0,none⟩),.pointer (some ⟨w.heap.size+2,0,none⟩)],.func (.func 186) #[] #[.pointer (some ⟨w.heap.size,0,none⟩),.pointer (some ⟨w.heap.size+4,0,none⟩),.pointer (some ⟨w.heap.size+2,0,none⟩)],.func (.func 187) #[] #[.pointer (some ⟨w.heap.size+1,0,none⟩),.pointer (some ⟨x1.heap.size,0,none⟩)],.func (.func 188) #[] #[.pointer (some ⟨w.heap.size,0,none⟩),.pointer (some ⟨x1.heap.size,0,none⟩)]]) (.int .i64 4)).run Tryz.prog wx=.ok (.func (.func 186) #[] #[.pointer (some ⟨w.heap.size,0,none⟩),.pointer (some ⟨w.heap.size+4,0,none⟩),.pointer (some ⟨w.heap.size+2,0,none⟩)]) wx:=fun wx=>fx7_4 wx
   have bX:=hJ (BX.new cY.out bE.out)
   have dF:=hJ (BX.new dO.out bE.out)
   have cW:=hJ (BX.new cZ.out bE.out)
   have fU:=hJ (PIo.new eB.out bW.out)
   have dE:=hJ (PIo.new dJ.out bW.out)
   go_wp2_with fail
   clear hix
   refine (da5_any xc xa s4 A4 n4 c4 s5 A5 n5 c5 s0 A0 n0 c0 s1 A1 n1 c1 w.heap.size (w.heap.size+4) (w.heap.size+2) wl10 bX.out dF.out cW.out fU.out dE.out (nk_lim HN.out.2.2.2.2.1) (nk_lim HN.out.1) (nk_lim HD.out.2.2)).mono ?_
   rintro e w19 ⟨s15,A15,n15,c15,rfl,hr15,hb⟩
   have cK:=hJ hb
   have fV:=hJ hr15
   clear hb hr15
   have aA:=hJ (BX.new bH.out cK.out)
   have fW:=aA.out.frozen 8
   have fX:=aA.out.cell 8 rfl
   have fY:=aA.out.frozen 9
   have fZ:=aA.out.cell 9 rfl
   obtain ⟨x20,dU⟩:=nmz (World.setCell (World.setCell w19 ⟨x1.heap.size,8,none⟩ (.bool s15)) ⟨x1.heap.size,9,none⟩ (.slice A15 n15 c15))
   have cC:=hJ (show sto w19 x1.heap.size 8 [.bool s15,.slice A15 n15 c15]=x20 from dU)
   have gA:=hJ (show BX 239 x20 x1.heap.size #[.bool aG,.slice aH aI aJ,.bool aK,.slice aL aM aN,.bool aO,.slice aP aQ aR,.bool aS,.slice aT aU aV,.bool s15,.slice A15 n15 c15,.bool bA,.slice bB bC bD,.bool aB,.slice aC aD aE] by rw [←cC.out]; exact BX.put aA.out _ _)
   have bU:=hJ (PIo.new cP.out cK.out)
   have bV:=hJ (show PI x20 aG aH aI aJ (xb - xa) by rw [←cC.out]; exact PIo.sto bU.out aA.out rfl _ _)
   have bJ:=hJ (PIo.new cQ.out cK.out)
   have bK:=hJ (show PI x20 aK aL aM aN (yc - ya) by rw [←cC.out]; exact PIo.sto bJ.out aA.out rfl _ _)
   have bL:=hJ (PIo.new cR.out cK.out)
   have bM:=hJ (show PI x20 aO aP aQ aR ((xb - xa)*(yc - ya)) by rw [←cC.out]; exact PIo.sto bL.out aA.out rfl _ _)
   have bN:=hJ (PIo.new cS.out cK.out)
   have bO:=hJ (show PI x20 aS aT aU aV (yb - ya) by rw [←cC.out]; exact PIo.sto bN.out aA.out rfl _ _)
   have gB:=hJ (show PI x20 s15 A15 n15 c15 (xc - xa) by rw [←cC.out]; exact PIo.sto fV.out aA.out rfl _ _)
   have bR:=hJ (PIo.new cU.out cK.out)
   have bS:=hJ (show PI x20 bA bB bC bD z5_10 by rw [←cC.out]; exact PIo.sto bR.out aA.out rfl _ _)
   have bF:=hJ (PIo.new cV.out cK.out)
   have bT:=hJ (show PI x20 aB aC aD aE z6_10 by rw [←cC.out]; exact PIo.sto bF.out aA.out rfl _ _)
   have bG:=hJ (show Below x1.heap.size x1 x20 by rw [←cC.out]; exact below_sto (bt bE.out cK.out) cN.out _ _)
   go_wp2_with fail
   clear fW fX fY fZ dU
   go_roundw
   case rel=>exact ⟨4+1,aG,aH,aI,aJ,aK,aL,aM,aN,aO,aP,aQ,aR,aS,aT,aU,aV,s15,A15,n15,c15,bA,bB,bC,bD,aB,aC,aD,aE,(xb - xa),(yc - ya),((xb - xa)*(yc - ya)),(yb - ya),(xc - xa),z5_10,z6_10,by omega,by go_num,gA.out,bV.out,bK.out,bM.out,bO.out,gB.out,bS.out,bT.out,hJ (⟨fun _=>rfl,fun _=>rfl,fun _=>rfl,fun _=>rfl,fun _=>rfl,fun h=>absurd h (by decide),fun h=>absurd h (by decide)⟩),bG.out⟩
   case measure=>simp [intOf] <;> omega
  ·(try rw [show ((5:Nat):Int)=5 from rfl])
   obtain rfl:xb - xa=z0_10:=(aF.out.1 (by decide)).symm
   obtain rfl:yc - ya=z1_10:=(aF.out.2.1 (by decide)).symm
   obtain rfl:(xb - xa)*(yc - ya)=z2_10:=(aF.out.2.2.1 (by decide)).symm
   obtain rfl:yb - ya=z3_10:=(aF.out.2.2.2.1 (by decide)).symm
   obtain rfl:xc - xa=z4_10:=(aF.out.2.2.2.2.1 (by decide)).symm
   have hix:∀ wx,(Instr.index 241 (.agg #[.func (.func 182) #[] #[.pointer (some ⟨w.heap.size,0,none⟩),.pointer (some ⟨w.heap.size+3,0,none⟩),.pointer (some ⟨w.heap.size+2,0,none⟩)],.func (.func 183) #[] #[.pointer (some ⟨w.heap.size,0,none⟩),.pointer (some ⟨w.heap.size+4,0,none⟩),.pointer (some ⟨w.heap.size+2,0,none⟩)],.func (.func 184) #[] #[.pointer (some ⟨w.heap.size+1,0,none⟩),.pointer (some ⟨x1.heap.size,0,none⟩)],.func (.func 185) #[] #[.pointer (some ⟨w.heap.size,0,none⟩),.pointer (some ⟨w.heap.size+3,0,none⟩),.pointer (some ⟨w.heap.size+2,0,none⟩)],.func (.func 186) #[] #[.pointer (some ⟨w.heap.size,0,none⟩),.pointer (some ⟨w.heap.size+4,0,none⟩),.pointer (some ⟨w.heap.size+2,0,none⟩)],.func (.func 187) #[] #[.pointer (some ⟨w.heap.size+1,0,none⟩),.pointer (some ⟨x1.heap.size,0,none⟩)],.func (.func 188) #[] #[.pointer (some ⟨w.heap.size,0,none⟩),.pointer (some ⟨x1.heap.size,0,none⟩)]]) (.int .i64 5)).run Tryz.prog wx=.ok (.func (.func 187) #[] #[.pointer (some ⟨w.heap.size+1,0,none⟩),.pointer (some ⟨x1.heap.size,0,none⟩)]) wx:=fun wx=>fx7_5 wx
   have dH:=hJ (BX.new dM.out bE.out)
   go_wp2_with fail
   clear hix
   refine (da6_any (yb - ya) (xc - xa) aG aH aI aJ aK aL aM aN aO aP aQ aR aS aT aU aV aW aX aY aZ bA bB bC bD aB aC aD aE (w.heap.size+1) x1.heap.size wl10 dH.out bH.out cS.out cT.out (nk_lim HD.out.2.1) (nk_lim HD.out.2.2) (nk_lim HM.out.2)).mono ?_
   rintro e w21 ⟨s16,A16,n16,c16,rfl,hr16,hb⟩
   have cL:=hJ hb
   have gC:=hJ hr16
   clear hb hr16
   have aA:=hJ (BX.new bH.out cL.out)
   have gD:=aA.out.frozen 10
   have gE:=aA.out.cell 10 rfl
   have gF:=aA.out.frozen 11
   have gG:=aA.out.cell 11 rfl
   obtain ⟨x22,dW⟩:=nmz (World.setCell (World.setCell w21 ⟨x1.heap.size,10,none⟩ (.bool s16)) ⟨x1.heap.size,11,none⟩ (.slice A16 n16 c16))
   have cD:=hJ (show sto w21 x1.heap.size 10 [.bool s16,.slice A16 n16 c16]=x22 from dW)
   have gH:=hJ (show BX 239 x22 x1.heap.size #[.bool aG,.slice aH aI aJ,.bool aK,.slice aL aM aN,.bool aO,.slice aP aQ aR,.bool aS,.slice aT aU aV,.bool aW,.slice aX aY aZ,.bool s16,.slice A16 n16 c16,.bool aB,.slice aC aD aE] by rw [←cD.out]; exact BX.put aA.out _ _)
   have bU:=hJ (PIo.new cP.out cL.out)
   have bV:=hJ (show PI x22 aG aH aI aJ (xb - xa) by rw [←cD.out]; exact PIo.sto bU.out aA.out rfl _ _)
   have bJ:=hJ (PIo.new cQ.out cL.out)
   have bK:=hJ (show PI x22 aK aL aM aN (yc - ya) by rw [←cD.out]; exact PIo.sto bJ.out aA.out rfl _ _)
   have bL:=hJ (PIo.new cR.out cL.out)
   have bM:=hJ (show PI x22 aO aP aQ aR ((xb - xa)*(yc - ya)) by rw [←cD.out]; exact PIo.sto bL.out aA.out rfl _ _)
   have bN:=hJ (PIo.new cS.out cL.out)
   have bO:=hJ (show PI x22 aS aT aU aV (yb - ya) by rw [←cD.out]; exact PIo.sto bN.out aA.out rfl _ _)
   have bP:=hJ (PIo.new cT.out cL.out)
   have bQ:=hJ (show PI x22 aW aX aY aZ (xc - xa) by rw [←cD.out]; exact PIo.sto bP.out aA.out rfl _ _)
   have gI:=hJ (show PI x22 s16 A16 n16 c16 ((yb - ya)*(xc - xa)) by rw [←cD.out]; exact PIo.sto gC.out aA.out rfl _ _)
   have bF:=hJ (PIo.new cV.out cL.out)
   have bT:=hJ (show PI x22 aB aC aD aE z6_10 by rw [←cD.out]; exact PIo.sto bF.out aA.out rfl _ _)
   have bG:=hJ (show Below x1.heap.size x1 x22 by rw [←cD.out]; exact below_sto (bt bE.out cL.out) cN.out _ _)
   go_wp2_with fail
   clear gD gE gF gG dW
   go_roundw
   case rel=>exact ⟨5+1,aG,aH,aI,aJ,aK,aL,aM,aN,aO,aP,aQ,aR,aS,aT,aU,aV,aW,aX,aY,aZ,s16,A16,n16,c16,aB,aC,aD,aE,(xb - xa),(yc - ya),((xb - xa)*(yc - ya)),(yb - ya),(xc - xa),((yb - ya)*(xc - xa)),z6_10,by omega,by go_num,gH.out,bV.out,bK.out,bM.out,bO.out,bQ.out,gI.out,bT.out,hJ (⟨fun _=>rfl,fun _=>rfl,fun _=>rfl,fun _=>rfl,fun _=>rfl,fun _=>rfl,fun h=>absurd h (by decide)⟩),bG.out⟩
   case measure=>simp [intOf] <;> omega
  ·(try rw [show ((6:Nat):Int)=6 from rfl])
   obtain rfl:xb - xa=z0_10:=(aF.out.1 (by decide)).symm
   obtain rfl:yc - ya=z1_10:=(aF.out.2.1 (by decide)).symm
   obtain rfl:(xb - xa)*(yc - ya)=z2_10:=(aF.out.2.2.1 (by decide)).symm
   obtain rfl:yb - ya=z3_10:=(aF.out.2.2.2.1 (by decide)).symm
   obtain rfl:xc - xa=z4_10:=(aF.out.2.2.2.2.1 (by decide)).symm
   obtain rfl:(yb - ya)*(xc - xa)=z5_10:=(aF.out.2.2.2.2.2.1 (by decide)).symm
   have hix:∀ wx,(Instr.index 241 (.agg #[.func (.func 182) #[] #[.pointer (some ⟨w.heap.size,0,none⟩),.pointer (some ⟨w.heap.size+3,0,none⟩),.pointer (some ⟨w.heap.size+2,0,none⟩)],.func (.func 183) #[] #[.pointer (some ⟨w.heap.size,0,none⟩),.pointer (some ⟨w.heap.size+4,0,none⟩),.pointer (some ⟨w.heap.size+2,0,none⟩)],.func (.func 184) #[] #[.pointer (some ⟨w.heap.size+1,0,none⟩),.pointer (some ⟨x1.heap.size,0,none⟩)],.func (.func 185) #[] #[.pointer (some ⟨w.heap.size,0,none⟩),.pointer (some ⟨w.heap.size+3,0,none⟩),.pointer (some ⟨w.heap.size+2,0,none⟩)],.func (.func 186) #[] #[.pointer (some ⟨w.heap.size,0,none⟩),.pointer (some ⟨w.heap.size+4,0,none⟩),.pointer (some ⟨w.heap.size+2,0,none⟩)],.func (.func 187) #[] #[.pointer (some ⟨w.heap.size+1,0,none⟩),.pointer (some ⟨x1.heap.size,0,none⟩)],.func (.func 188) #[] #[.pointer (some ⟨w.heap.size,0,none⟩),.pointer (some ⟨x1.heap.size,0,none⟩)]]) (.int .i64 6)).run Tryz.prog wx=.ok (.func (.func 188) #[] #[.pointer (some ⟨w.heap.size,0,none⟩),.pointer (some ⟨x1.heap.size,0,none⟩)]) wx:=fun wx=>fx7_6 wx
   have bX:=hJ (BX.new cY.out bE.out)
   go_wp2_with fail
   clear hix
   refine (da7_any ((xb - xa)*(yc - ya)) ((yb - ya)*(xc - xa)) aG aH aI aJ aK aL aM aN aO aP aQ aR aS aT aU aV aW aX aY aZ bA bB bC bD aB aC aD aE w.heap.size x1.heap.size wl10 bX.out bH.out cR.out cU.out (nk_lim HM.out.1) (nk_lim HM.out.2) (nk_lim (nk_sub HM.out.1 HM.out.2))).mono ?_
   rintro e w23 ⟨s17,A17,n17,c17,rfl,hr17,hb⟩
   have cM:=hJ hb
   have gJ:=hJ hr17
   clear hb hr17
   have aA:=hJ (BX.new bH.out cM.out)
   have gK:=aA.out.frozen 12
   have gL:=aA.out.cell 12 rfl
   have gM:=aA.out.frozen 13
   have gN:=aA.out.cell 13 rfl
   obtain ⟨x24,dX⟩:=nmz (World.setCell (World.setCell w23 ⟨x1.heap.size,12,none⟩ (.bool s17)) ⟨x1.heap.size,13,none⟩ (.slice A17 n17 c17))
   have cE:=hJ (show sto w23 x1.heap.size 12 [.bool s17,.slice A17 n17 c17]=x24 from dX)
   have gO:=hJ (show BX 239 x24 x1.heap.size #[.bool aG,.slice aH aI aJ,.bool aK,.slice aL aM aN,.bool aO,.slice aP aQ aR,.bool aS,.slice aT aU aV,.bool aW,.slice aX aY aZ,.bool bA,.slice bB bC bD,.bool s17,.slice A17 n17 c17] by rw [←cE.out]; exact BX.put aA.out _ _)
   have bU:=hJ (PIo.new cP.out cM.out)
   have bV:=hJ (show PI x24 aG aH aI aJ (xb - xa) by rw [←cE.out]; exact PIo.sto bU.out aA.out rfl _ _)
   have bJ:=hJ (PIo.new cQ.out cM.out)
   have bK:=hJ (show PI x24 aK aL aM aN (yc - ya) by rw [←cE.out]; exact PIo.sto bJ.out aA.out rfl _ _)
   have bL:=hJ (PIo.new cR.out cM.out)
   have bM:=hJ (show PI x24 aO aP aQ aR ((xb - xa)*(yc - ya)) by rw [←cE.out]; exact PIo.sto bL.out aA.out rfl _ _)
   have bN:=hJ (PIo.new cS.out cM.out)
   have bO:=hJ (show PI x24 aS aT aU aV (yb - ya) by rw [←cE.out]; exact PIo.sto bN.out aA.out rfl _ _)
   have bP:=hJ (PIo.new cT.out cM.out)
   have bQ:=hJ (show PI x24 aW aX aY aZ (xc - xa) by rw [←cE.out]; exact PIo.sto bP.out aA.out rfl _ _)
   have bR:=hJ (PIo.new cU.out cM.out)
   have bS:=hJ (show PI x24 bA bB bC bD ((yb - ya)*(xc - xa)) by rw [←cE.out]; exact PIo.sto bR.out aA.out rfl _ _)
   have gP:=hJ (show PI x24 s17 A17 n17 c17 (((xb - xa)*(yc - ya)) - ((yb - ya)*(xc - xa))) by rw [←cE.out]; exact PIo.sto gJ.out aA.out rfl _ _)
   have bG:=hJ (show Below x1.heap.size x1 x24 by rw [←cE.out]; exact below_sto (bt bE.out cM.out) cN.out _ _)
   go_wp2_with fail
   clear gK gL gM gN dX
   go_roundw
   case rel=>exact ⟨6+1,aG,aH,aI,aJ,aK,aL,aM,aN,aO,aP,aQ,aR,aS,aT,aU,aV,aW,aX,aY,aZ,bA,bB,bC,bD,s17,A17,n17,c17,(xb - xa),(yc - ya),((xb - xa)*(yc - ya)),(yb - ya),(xc - xa),((yb - ya)*(xc - xa)),(((xb - xa)*(yc - ya)) - ((yb - ya)*(xc - xa))),by omega,by go_num,gO.out,bV.out,bK.out,bM.out,bO.out,bQ.out,bS.out,gP.out,hJ (⟨fun _=>rfl,fun _=>rfl,fun _=>rfl,fun _=>rfl,fun _=>rfl,fun _=>rfl,fun _=>rfl⟩),bG.out⟩
   case measure=>simp [intOf] <;> omega
  ·(try rw [show ((7:Nat):Int)=7 from rfl])
   obtain rfl:xb - xa=z0_10:=(aF.out.1 (by decide)).symm
   obtain rfl:yc - ya=z1_10:=(aF.out.2.1 (by decide)).symm
   obtain rfl:(xb - xa)*(yc - ya)=z2_10:=(aF.out.2.2.1 (by decide)).symm
   obtain rfl:yb - ya=z3_10:=(aF.out.2.2.2.1 (by decide)).symm
   obtain rfl:xc - xa=z4_10:=(aF.out.2.2.2.2.1 (by decide)).symm
   obtain rfl:(yb - ya)*(xc - xa)=z5_10:=(aF.out.2.2.2.2.2.1 (by decide)).symm
   obtain rfl:((xb - xa)*(yc - ya)) - ((yb - ya)*(xc - xa))=z6_10:=(aF.out.2.2.2.2.2.2 (by decide)).symm
   obtain ⟨gQ,gR⟩:=bH.out.c2 12 13 rfl rfl
   have cX:=hJ (BX.new eE.out bE.out)
   have gS:=cX.out.frozen 0
   have gT:=cX.out.cell 0 rfl
   have gU:=cX.out.frozen 1
   have gV:=cX.out.cell 1 rfl
   obtain ⟨x27,dY⟩:=nmz (World.setCell (World.setCell wl10 ⟨w.heap.size+5,0,none⟩ (.bool aB)) ⟨w.heap.size+5,1,none⟩ (.slice aC aD aE))
   have dI:=hJ (show sto wl10 (w.heap.size+5) 0 [.bool aB,.slice aC aD aE]=x27 from dY)
   have gW:=hJ (show BX 25 x27 (w.heap.size+5) #[.bool aB,.slice aC aD aE] by rw [←dI.out]; exact BX.put cX.out _ _)
   have gX:=hJ (show Below w.heap.size w x27 by rw [←dI.out]; exact below_sto bW.out eF.out _ _)
   have bF:=hJ (show PI x27 aB aC aD aE (((xb - xa)*(yc - ya)) - ((yb - ya)*(xc - xa))) by rw [←dI.out]; exact PIo.sto cV.out cX.out rfl _ _)
   go_wp2
   clear gQ gR gS gT gU gV dY
   exact bodyPost_ret (results_cell1 rfl _ _ _ _ _ _ _ rfl gW.out Tryz.underlying25 rfl W_size) rfl ⟨aB,aC,aD,aE,rfl,bF.out,gX.out⟩
/-- The error and the value of Circle. -/
def crE (ax ay bx by' cx cy dx dy:Int):Int:=if fsE vdP [(ax,ay),(bx,by'),(cx,cy),(dx,dy)]=0 then (if sdV ax ay bx by' cx cy=0 then 1 else 0) else fsE vdP [(ax,ay),(bx,by'),(cx,cy),(dx,dy)]
def crV (ax ay bx by' cx cy dx dy:Int):Int:=if fsE vdP [(ax,ay),(bx,by'),(cx,cy),(dx,dy)]=0 then ciV ax ay bx by' cx cy dx dy else 0
theorem cr_flat {ax ay bx by' cx cy dx dy:Int} (h:fsE vdP [(ax,ay),(bx,by'),(cx,cy),(dx,dy)]=0) (h0:sdV ax ay bx by' cx cy=0):crV ax ay bx by' cx cy dx dy=0∧crE ax ay bx by' cx cy dx dy=1 :=
 ⟨by rw [crV,if_pos h,ciV,h0,Int.zero_mul],by rw [crE,if_pos h,if_pos h0]⟩
theorem cr_round {ax ay bx by' cx cy dx dy sd:Int} (h:fsE vdP [(ax,ay),(bx,by'),(cx,cy),(dx,dy)]=0) (hs:sdV ax ay bx by' cx cy=sd) (h0:sd≠0):crV ax ay bx by' cx cy dx dy=sd*cmpI (arV ax ay bx by' cx cy dx dy) 0∧crE ax ay bx by' cx cy dx dy=0 :=
 ⟨by rw [crV,if_pos h,ciV,hs],by rw [crE,if_pos h,if_neg (by rw [hs]; exact h0)]⟩
theorem ah_nk {ax ay bx by' px py:Int} (ha:Nk 1073741824 ax∧Nk 1073741824 ay) (hb:Nk 1073741824 bx∧Nk 1073741824 by') (hp:Nk 1073741824 px∧Nk 1073741824 py):Nk 9223372036854775808 (ahV ax ay bx by' px py)∧Nk 9223372036854775808 (lfV ax ay bx by' px py) :=
 ⟨nk_add (nk_mul (nk_diff ha.1 hp.1) (nk_diff hb.1 hp.1)) (nk_mul (nk_diff ha.2 hp.2) (nk_diff hb.2 hp.2)),nk_sub (nk_mul (nk_diff ha.1 hp.1) (nk_diff hb.2 hp.2)) (nk_mul (nk_diff ha.2 hp.2) (nk_diff hb.1 hp.1))⟩
theorem ar_nk {ax ay bx by' cx cy dx dy:Int} (h:(Nk 1073741824 ax∧Nk 1073741824 ay)∧(Nk 1073741824 bx∧Nk 1073741824 by')∧(Nk 1073741824 cx∧Nk 1073741824 cy)∧(Nk 1073741824 dx∧Nk 1073741824 dy)) :
  Nk 1180591620717411303424 0∧Nk 1180591620717411303424 0∧Nk 1180591620717411303424 (ahV ax ay bx by' cx cy)∧Nk 1180591620717411303424 (lfV ax ay bx by' cx cy)∧Nk 1180591620717411303424 (ahV ax ay bx by' dx dy)∧Nk 1180591620717411303424 (lfV ax ay bx by' dx dy):=by
 have h1:=ah_nk h.1 h.2.1 h.2.2.1
 have h2:=ah_nk h.1 h.2.1 h.2.2.2
 exact ⟨by unfold Nk; omega,by unfold Nk; omega,nk_le h1.1 (by decide),nk_le h1.2 (by decide),nk_le h2.1 (by decide),nk_le h2.2 (by decide)⟩
theorem ar_lim {ax ay bx by' cx cy dx dy:Int} (h:(Nk 1073741824 ax∧Nk 1073741824 ay)∧(Nk 1073741824 bx∧Nk 1073741824 by')∧(Nk 1073741824 cx∧Nk 1073741824 cy)∧(Nk 1073741824 dx∧Nk 1073741824 dy)):(arV ax ay bx by' cx cy dx dy).natAbs < lim:=by
 have h1:=ah_nk h.1 h.2.1 h.2.2.1
 have h2:=ah_nk h.1 h.2.1 h.2.2.2
 exact nk_lim (nk_sub (nk_mul h1.1 h2.2) (nk_mul h1.2 h2.1))
theorem ar_zero {p q r s:Int}:(p - 0)*(q - 0) - (r - 0)*(s - 0)=p*q - r*s:=by simp only [Int.sub_zero]
theorem cm_bound (a b:Int):cmpI a b = -1∨cmpI a b=0∨cmpI a b=1:=by
 rcases cmpI_is a b with ⟨_,h⟩ | ⟨_,h⟩ | ⟨_,h⟩
 ·exact .inl h
 ·exact .inr (.inl h)
 ·exact .inr (.inr h)
theorem sg_prod (a b c d:Int):I6 (cmpI a b*cmpI c d):=by
 rcases cm_bound a b with h | h | h <;> rcases cm_bound c d with g | g | g <;> rw [h,g] <;> exact ⟨by decide,by decide⟩
theorem circle_any (ax ay bx by' cx cy dx dy:Int) (w:World) :
  Calls Tryz.prog 59 #[.agg #[.int .i64 ax,.int .i64 ay],.agg #[.int .i64 bx,.int .i64 by'],.agg #[.int .i64 cx,.int .i64 cy],.agg #[.int .i64 dx,.int .i64 dy]] w fun e w'=>e=.returned (.tuple #[.int .i64 (crV ax ay bx by' cx cy dx dy),.int .i64 (crE ax ay bx by' cx cy dx dy)])∧Below w.heap.size w w':=by
 obtain ⟨E,hE⟩:=nmz (fsE vdP [(ax,ay),(bx,by'),(cx,cy),(dx,dy)])
 have HE:=hJ hE
 clear hE
 obtain ⟨sd,hsd⟩:=nmz (sdV ax ay bx by' cx cy)
 have HS:=hJ hsd
 clear hsd
 have cN:=hJ (PI.zero w)
 obtain ⟨x1,aK⟩:=nmz ((((w.alloc (.cells #[.int .i64 ax,.int .i64 ay] 87)).alloc (.cells #[.int .i64 bx,.int .i64 by'] 87)).alloc (.cells #[.int .i64 cx,.int .i64 cy] 87)).alloc (.cells #[.int .i64 dx,.int .i64 dy] 87))
 have aZ:=hJ (show Below w.heap.size w x1 by rw [←aK]; exact (((((Below.refl _ _).alloc (Nat.le_refl _) _).alloc (by simp only [World.size_alloc]; omega) _).alloc (by simp only [World.size_alloc]; omega) _).alloc (by simp only [World.size_alloc]; omega) _))
 have bK:=hJ (show BX 87 x1 w.heap.size #[.int .i64 ax,.int .i64 ay] by rw [←aK]; exact ((((BX.at rfl).alloc _).alloc _).alloc _))
 have bL:=hJ (show BX 87 x1 (w.heap.size+1) #[.int .i64 bx,.int .i64 by'] by rw [←aK]; exact (((BX.at (by simp only [World.size_alloc])).alloc _).alloc _))
 have bM:=hJ (show BX 87 x1 (w.heap.size+2) #[.int .i64 cx,.int .i64 cy] by rw [←aK]; exact ((BX.at (by simp only [World.size_alloc])).alloc _))
 have bN:=hJ (show BX 87 x1 (w.heap.size+3) #[.int .i64 dx,.int .i64 dy] by rw [←aK]; exact (BX.at (by simp only [World.size_alloc])))
 obtain ⟨cO,cP⟩:=bK.out.c2 0 1 rfl rfl
 obtain ⟨cQ,cR⟩:=bL.out.c2 0 1 rfl rfl
 obtain ⟨cS,cT⟩:=bM.out.c2 0 1 rfl rfl
 obtain ⟨cU,cV⟩:=bN.out.c2 0 1 rfl rfl
 obtain ⟨x10,bA⟩:=nmz (x1.alloc (.cells #[.int .i64 ax,.int .i64 ay,.int .i64 bx,.int .i64 by',.int .i64 cx,.int .i64 cy,.int .i64 dx,.int .i64 dy] 87))
 have aP:=hJ (show Below x1.heap.size x1 x10 by rw [←bA]; exact ((Below.refl _ _).alloc (Nat.le_refl _) _))
 have cW:=hJ (show BX 87 x10 x1.heap.size #[.int .i64 ax,.int .i64 ay,.int .i64 bx,.int .i64 by',.int .i64 cx,.int .i64 cy,.int .i64 dx,.int .i64 dy] by rw [←bA]; exact (BX.at rfl))
 go_enter Tryz.func59,Tryz.ntmps59
 go_wp2_with fail
 clear aK cO cP cQ cR cS cT cU cV bA
 refine (valids_any [(ax,ay),(bx,by'),(cx,cy),(dx,dy)] 4 x1.heap.size x10 rfl (by decide) cW.out).mono ?_
 rw [show fsE vdP [(ax,ay),(bx,by'),(cx,cy),(dx,dy)]=E from HE.out]
 rintro e w11 ⟨rfl,hb⟩
 have aQ:=hJ hb
 clear hb
 by_cases hE0:E=0
 ·subst hE0
  have H4:=hJ (And.intro (vd_nk (fs_cons HE.out).1) (And.intro (vd_nk (fs_cons (fs_cons HE.out).2).1) (And.intro (vd_nk (fs_two (fs_cons (fs_cons HE.out).2).2).1) (vd_nk (fs_two (fs_cons (fs_cons HE.out).2).2).2))))
  have aR:=hJ (bt aP.out aQ.out)
  have bO:=hJ (BX.new bK.out aR.out)
  obtain ⟨cX,cY⟩:=bO.out.c2 0 1 rfl rfl
  have bP:=hJ (BX.new bL.out aR.out)
  obtain ⟨cZ,dA⟩:=bP.out.c2 0 1 rfl rfl
  have bQ:=hJ (BX.new bM.out aR.out)
  obtain ⟨dB,dD⟩:=bQ.out.c2 0 1 rfl rfl
  go_wp2_with fail
  clear cX cY cZ dA dB dD
  refine (gridside_any ax ay bx by' cx cy w11 (g3_ok H4.out.1 H4.out.2.1 H4.out.2.2.1)).mono ?_
  rw [HS.out]
  rintro e w18 ⟨rfl,hb⟩
  have aL:=hJ hb
  clear hb
  by_cases hs0:sd=0
  ·subst hs0
   have HV:=hJ (show crV ax ay bx by' cx cy dx dy=0∧crE ax ay bx by' cx cy dx dy=1 from cr_flat HE.out HS.out)
   have aS:=hJ (bt (bt (bt aZ.out aP.out) aQ.out) aL.out)
   go_wp2
   go_ret2
   exact ⟨by rw [HV.out.1,HV.out.2] <;> rfl,aS.out⟩
  have hsz:(sd == 0)=false:=by simp [hs0]
  have HV:=hJ (show crV ax ay bx by' cx cy dx dy=sd*cmpI (arV ax ay bx by' cx cy dx dy) 0∧crE ax ay bx by' cx cy dx dy=0 from cr_round HE.out HS.out hs0)
  clear hs0
  have bR:=hJ (BX.new bO.out aL.out)
  have bS:=hJ (BX.new bP.out aL.out)
  have bT:=hJ (BX.new bQ.out aL.out)
  have dE:=hJ (bt aR.out aL.out)
  have bU:=hJ (BX.new bN.out dE.out)
  have aC:Hid (∀ w',Below w18.heap.size w18 w'→(fun w':World=>w'.cell? ⟨w.heap.size,0,none⟩=some (.int .i64 ax)∧w'.cell? ⟨w.heap.size,1,none⟩=some (.int .i64 ay)∧w'.cell? ⟨w.heap.size+1,0,none⟩=some (.int .i64 bx)∧w'.cell? ⟨w.heap.size+1,1,none⟩=some (.int .i64 by')∧w'.cell? ⟨w.heap.size+2,0,none⟩=some (.int .i64 cx)∧w'.cell? ⟨w.heap.size+2,1,none⟩=some (.int .i64 cy)∧w'.cell? ⟨w.heap.size+3,0,none⟩=some (.int .i64 dx)∧w'.cell? ⟨w.heap.size+3,1,none⟩=some (.int .i64 dy)∧Below w18.heap.size w18 w') w'):=hJ (fun w' hb=>⟨(BX.new bR.out hb).cell 0 rfl,(BX.new bR.out hb).cell 1 rfl,(BX.new bS.out hb).cell 0 rfl,(BX.new bS.out hb).cell 1 rfl,(BX.new bT.out hb).cell 0 rfl,(BX.new bT.out hb).cell 1 rfl,(BX.new bU.out hb).cell 0 rfl,(BX.new bU.out hb).cell 1 rfl,hb⟩)
  have aS:=hJ (bt (bt (bt aZ.out aP.out) aQ.out) aL.out)
  have aT:=hJ (PIo.new cN.out aS.out)
  go_wp2_with fail
  obtain ⟨v19,hv19⟩:=nmz (World.drew w18)
  have bB:=hJ (show Below w18.heap.size w18 v19 by rw [←hv19]; exact (Below.refl _ _).drew)
  refine whd aC hv19 (fun hHeld=>?_)
  clear hv19
  refine tq 0 ?_
  refine tq 1 ?_
  refine tq 2 ?_
  refine tq 3 ?_
  refine tq 5 ?_
  refine tq 6 ?_
  refine tq 7 ?_
  try simp only [PT]
  refine wpAnyH_name (fun F hF a0 ha0 L0 hL0=>?_)
  have aU:∀ (s11:Bool) (A11:Option Addr) (n11:Nat) (c11:Nat) (s12:Bool) (A12:Option Addr) (n12:Nat) (c12:Nat) (s13:Bool) (A13:Option Addr) (n13:Nat) (c13:Nat) (s14:Bool) (A14:Option Addr) (n14:Nat) (c14:Nat) (s15:Bool) (A15:Option Addr) (n15:Nat) (c15:Nat) (aA:Nat) (v:World),Hid (Below w18.heap.size w18 v)→Hid (PI v s11 A11 n11 c11 (ahV ax ay bx by' cx cy))→Hid (PI v s12 A12 n12 c12 (lfV ax ay bx by' cx cy))→Hid (PI v s13 A13 n13 c13 (ahV ax ay bx by' dx dy))→Hid (PI v s14 A14 n14 c14 (lfV ax ay bx by' dx dy))→Hid (PI v s15 A15 n15 c15 (arV ax ay bx by' cx cy dx dy))→Hid (BX 25 v aA #[.bool false,.slice none 0 0])→Hid (w18.heap.size≤aA)→F 2 (Array.setIfInBounds (Array.setIfInBounds (Array.setIfInBounds (Array.setIfInBounds (Array.setIfInBounds (Array.setIfInBounds (Array.setIfInBounds L0 4 true) 8 true) 9 true) 13 true) 10 true) 11 true) 12 true) (Act.put (Act.put (Act.put (Act.put (Act.put (Act.put (Act.put a0 (some 34) (.agg #[.bool s11,.slice A11 n11 c11,.bool s12,.slice A12 n12 c12])) (some 38) (.agg #[.bool s13,.slice A13 n13 c13,.bool s14,.slice A14 n14 c14])) (some 39) (.tuple #[.agg #[.bool s15,.slice A15 n15 c15],.int .i64 0])) (some 12) (.pointer (some ⟨aA,0,none⟩))) (some 29) (.tuple #[.agg #[.bool s15,.slice A15 n15 c15],.int .i64 0])) (some 40) (.agg #[.bool s15,.slice A15 n15 c15])) (some 41) (.int .i64 0)) v:=by
   intro s11 A11 n11 c11 s12 A12 n12 c12 s13 A13 n13 c13 s14 A14 n14 c14 s15 A15 n15 c15 aA v aB aD aE aG aH bC aF aI
   subst hF ha0 hL0
   simp only [PT] at  ⊢
   have hHeld:=aC.out _ aB.out
   refine ryy [14] ?_
   refine .cons rfl (fun K hK=>?_) .nil
   have z20_0:=aF.out.cell 0 rfl
   have y20_0:=aF.out.frozen 0
   have z20_1:=aF.out.cell 1 rfl
   have y20_1:=aF.out.frozen 1
   have z20:=aF.out.lt
   go_simp
   obtain ⟨v20,hV⟩:=nmz (World.setCell (World.setCell v ⟨aA,0,none⟩ (.bool s15)) ⟨aA,1,none⟩ (.slice A15 n15 c15))
   rw [hV]
   have bD:=hJ (show sto v aA 0 [.bool s15,.slice A15 n15 c15]=v20 from hV)
   clear hV z20 z20_0 y20_0 z20_1 y20_1
   have bV:=hJ (show Below w18.heap.size w18 v20 by rw [←bD.out]; exact below_sto aB.out aI.out _ _)
   have bW:=hJ (show PI v20 s15 A15 n15 c15 (arV ax ay bx by' cx cy dx dy) by rw [←bD.out]; exact PIo.sto bC.out aF.out rfl _ _)
   have dF:=hJ (show BX 25 v20 aA #[.bool s15,.slice A15 n15 c15] by rw [←bD.out]; exact BX.put aF.out _ _)
   clear hHeld
   refine hK.out _ _ (aC.out _ bV.out) (fun hHeld=>?_)
   clear hK K
   refine tq 15 ?_
   try simp only [PT]
   refine wpAnyH_done (by kernel_rfl) ?_ _
   clear hHeld
   obtain ⟨sg,hsg⟩:=nmz (cmpI (arV ax ay bx by' cx cy dx dy) 0)
   have HG:=hJ hsg
   have dG:=hJ (show I6 (sd*sg) by rw [←hsg,←HS.out]; exact sg_prod _ _ _ _)
   clear hsg
   obtain ⟨dH,dI⟩:=dF.out.c2 0 1 rfl rfl
   go_wp2_with fail
   clear dH dI
   refine (sign_any (arV ax ay bx by' cx cy dx dy) s15 A15 n15 c15 v20 bW.out (Nat.le_trans (plim bW.out (ar_lim H4.out)) (by decide))).mono ?_
   rw [HG.out]
   rintro e w24 ⟨rfl,hb⟩
   have dJ:=hJ hb
   clear hb
   have dK:IntKind.i64.wrap (sd*sg)=sd*sg:=i6_wrap dG.out
   have dL:=hJ (bt (bt aS.out bV.out) dJ.out)
   go_wp2
   clear dK
   go_ret2
   exact ⟨by rw [HV.out.1,HV.out.2,HG.out] <;> rfl,dL.out⟩
  have bX:∀ (s11:Bool) (A11:Option Addr) (n11:Nat) (c11:Nat) (s12:Bool) (A12:Option Addr) (n12:Nat) (c12:Nat) (s13:Bool) (A13:Option Addr) (n13:Nat) (c13:Nat) (s14:Bool) (A14:Option Addr) (n14:Nat) (c14:Nat) (s15:Bool) (A15:Option Addr) (n15:Nat) (c15:Nat) (v:World),Hid (Below w18.heap.size w18 v)→Hid (PI v s11 A11 n11 c11 (ahV ax ay bx by' cx cy))→Hid (PI v s12 A12 n12 c12 (lfV ax ay bx by' cx cy))→Hid (PI v s13 A13 n13 c13 (ahV ax ay bx by' dx dy))→Hid (PI v s14 A14 n14 c14 (lfV ax ay bx by' dx dy))→Hid (PI v s15 A15 n15 c15 (arV ax ay bx by' cx cy dx dy))→F 3 (Array.setIfInBounds (Array.setIfInBounds (Array.setIfInBounds (Array.setIfInBounds (Array.setIfInBounds (Array.setIfInBounds L0 4 true) 8 true) 9 true) 10 true) 11 true) 12 true) (Act.put (Act.put (Act.put (Act.put (Act.put (Act.put a0 (some 34) (.agg #[.bool s11,.slice A11 n11 c11,.bool s12,.slice A12 n12 c12])) (some 38) (.agg #[.bool s13,.slice A13 n13 c13,.bool s14,.slice A14 n14 c14])) (some 39) (.tuple #[.agg #[.bool s15,.slice A15 n15 c15],.int .i64 0])) (some 29) (.tuple #[.agg #[.bool s15,.slice A15 n15 c15],.int .i64 0])) (some 40) (.agg #[.bool s15,.slice A15 n15 c15])) (some 41) (.int .i64 0)) v:=by
   intro s11 A11 n11 c11 s12 A12 n12 c12 s13 A13 n13 c13 s14 A14 n14 c14 s15 A15 n15 c15 v aB aD aE aG aH bC
   subst hF ha0 hL0
   simp only [PT] at aU ⊢
   have hHeld:=aC.out _ aB.out
   refine ryy [13] ?_
   refine .cons rfl (fun K hK=>?_) .nil
   go_simp
   have aJ:=hJ ((Below.refl v.heap.size v).alloc (Nat.le_refl _) (.cells #[.bool false,.slice none 0 0] 25))
   have bE:=hJ (BX.lit v 25 #[.bool false,.slice none 0 0])
   obtain ⟨v25,hV⟩:=nmz (World.alloc v (.cells #[.bool false,.slice none 0 0] 25))
   obtain ⟨aA,hg⟩:=nmz (v.heap.size)
   rw [hV] at aJ bE ⊢
   rw [hg] at bE ⊢
   have dM:=hJ (show w18.heap.size≤aA by rw [←hg]; exact aB.out.size)
   clear hV hg
   have bY:=hJ (bt aB.out aJ.out)
   have dN:=hJ (PIo.new aD.out aJ.out)
   have dO:=hJ (PIo.new aE.out aJ.out)
   have dP:=hJ (PIo.new aG.out aJ.out)
   have dQ:=hJ (PIo.new aH.out aJ.out)
   have dR:=hJ (PIo.new bC.out aJ.out)
   clear hHeld
   refine hK.out _ _ (aC.out _ bY.out) (fun hHeld=>?_)
   clear hK K
   try simp only [PT]
   exact wpAnyH_cast (by kernel_rfl) (aU s11 A11 n11 c11 s12 A12 n12 c12 s13 A13 n13 c13 s14 A14 n14 c14 s15 A15 n15 c15 aA v25 bY dN dO dP dQ dR bE dM)
  have aV:∀ (s11:Bool) (A11:Option Addr) (n11:Nat) (c11:Nat) (s12:Bool) (A12:Option Addr) (n12:Nat) (c12:Nat) (s13:Bool) (A13:Option Addr) (n13:Nat) (c13:Nat) (s14:Bool) (A14:Option Addr) (n14:Nat) (c14:Nat) (aA:Nat) (v:World),Hid (Below w18.heap.size w18 v)→Hid (PI v s11 A11 n11 c11 (ahV ax ay bx by' cx cy))→Hid (PI v s12 A12 n12 c12 (lfV ax ay bx by' cx cy))→Hid (PI v s13 A13 n13 c13 (ahV ax ay bx by' dx dy))→Hid (PI v s14 A14 n14 c14 (lfV ax ay bx by' dx dy))→Hid (BX 25 v aA #[.bool false,.slice none 0 0])→Hid (w18.heap.size≤aA)→F 6 (Array.setIfInBounds (Array.setIfInBounds (Array.setIfInBounds L0 4 true) 8 true) 13 true) (Act.put (Act.put (Act.put a0 (some 34) (.agg #[.bool s11,.slice A11 n11 c11,.bool s12,.slice A12 n12 c12])) (some 38) (.agg #[.bool s13,.slice A13 n13 c13,.bool s14,.slice A14 n14 c14])) (some 12) (.pointer (some ⟨aA,0,none⟩))) v:=by
   intro s11 A11 n11 c11 s12 A12 n12 c12 s13 A13 n13 c13 s14 A14 n14 c14 aA v aB aD aE aG aH aF aI
   subst hF ha0 hL0
   simp only [PT] at aU ⊢
   have hHeld:=aC.out _ aB.out
   refine ryy [9] ?_
   refine .cons rfl (fun K hK=>?_) .nil
   go_simp
   go_at_call 129
   refine (darea_any 0 0 (ahV ax ay bx by' cx cy) (lfV ax ay bx by' cx cy) (ahV ax ay bx by' dx dy) (lfV ax ay bx by' dx dy) false none 0 0 false none 0 0 s11 A11 n11 c11 s12 A12 n12 c12 s13 A13 n13 c13 s14 A14 n14 c14 v (PIo.new aT.out aB.out) (PIo.new aT.out aB.out) aD.out aE.out aG.out aH.out (ar_nk H4.out)).mono ?_
   rw [ar_zero]
   rintro e v26 ⟨s15,A15,n15,c15,rfl,hr15,hb⟩
   have aM:=hJ hb
   have dS:=hJ hr15
   clear hb hr15
   go_wp2_with fail
   have bZ:=hJ (bt aB.out aM.out)
   have dT:=hJ (PIo.new aD.out aM.out)
   have dU:=hJ (PIo.new aE.out aM.out)
   have dW:=hJ (PIo.new aG.out aM.out)
   have dX:=hJ (PIo.new aH.out aM.out)
   have dY:=hJ (BX.new aF.out aM.out)
   clear hHeld
   refine hK.out _ _ (aC.out _ bZ.out) (fun hHeld=>?_)
   clear hK K
   refine tq 10 ?_
   refine tq 11 ?_
   refine tq 12 ?_
   try simp only [PT]
   exact wpAnyH_cast (by kernel_rfl) (aU s11 A11 n11 c11 s12 A12 n12 c12 s13 A13 n13 c13 s14 A14 n14 c14 s15 A15 n15 c15 aA v26 bZ dT dU dW dX dS dY aI)
  have cA:∀ (s11:Bool) (A11:Option Addr) (n11:Nat) (c11:Nat) (s12:Bool) (A12:Option Addr) (n12:Nat) (c12:Nat) (s13:Bool) (A13:Option Addr) (n13:Nat) (c13:Nat) (s14:Bool) (A14:Option Addr) (n14:Nat) (c14:Nat) (v:World),Hid (Below w18.heap.size w18 v)→Hid (PI v s11 A11 n11 c11 (ahV ax ay bx by' cx cy))→Hid (PI v s12 A12 n12 c12 (lfV ax ay bx by' cx cy))→Hid (PI v s13 A13 n13 c13 (ahV ax ay bx by' dx dy))→Hid (PI v s14 A14 n14 c14 (lfV ax ay bx by' dx dy))→F 7 (Array.setIfInBounds (Array.setIfInBounds L0 4 true) 8 true) (Act.put (Act.put a0 (some 34) (.agg #[.bool s11,.slice A11 n11 c11,.bool s12,.slice A12 n12 c12])) (some 38) (.agg #[.bool s13,.slice A13 n13 c13,.bool s14,.slice A14 n14 c14])) v:=by
   intro s11 A11 n11 c11 s12 A12 n12 c12 s13 A13 n13 c13 s14 A14 n14 c14 v aB aD aE aG aH
   subst hF ha0 hL0
   simp only [PT] at bX aV ⊢
   have hHeld:=aC.out _ aB.out
   refine ryy [9,13] ?_
   refine .cons rfl (fun K hK=>?_) ?_
   go_simp
   go_at_call 129
   refine (darea_any 0 0 (ahV ax ay bx by' cx cy) (lfV ax ay bx by' cx cy) (ahV ax ay bx by' dx dy) (lfV ax ay bx by' dx dy) false none 0 0 false none 0 0 s11 A11 n11 c11 s12 A12 n12 c12 s13 A13 n13 c13 s14 A14 n14 c14 v (PIo.new aT.out aB.out) (PIo.new aT.out aB.out) aD.out aE.out aG.out aH.out (ar_nk H4.out)).mono ?_
   rw [ar_zero]
   rintro e v27 ⟨s15,A15,n15,c15,rfl,hr15,hb⟩
   have aO:=hJ hb
   have dZ:=hJ hr15
   clear hb hr15
   go_wp2_with fail
   have cB:=hJ (bt aB.out aO.out)
   have eA:=hJ (PIo.new aD.out aO.out)
   have eB:=hJ (PIo.new aE.out aO.out)
   have eC:=hJ (PIo.new aG.out aO.out)
   have eD:=hJ (PIo.new aH.out aO.out)
   clear hHeld
   refine hK.out _ _ (aC.out _ cB.out) (fun hHeld=>?_)
   clear hK K
   refine tq 10 ?_
   refine tq 11 ?_
   refine tq 12 ?_
   try simp only [PT]
   exact wpAnyH_cast (by kernel_rfl) (bX s11 A11 n11 c11 s12 A12 n12 c12 s13 A13 n13 c13 s14 A14 n14 c14 s15 A15 n15 c15 v27 cB eA eB eC eD dZ)
   refine .cons rfl (fun K hK=>?_) .nil
   go_simp
   have aN:=hJ ((Below.refl v.heap.size v).alloc (Nat.le_refl _) (.cells #[.bool false,.slice none 0 0] 25))
   have bF:=hJ (BX.lit v 25 #[.bool false,.slice none 0 0])
   obtain ⟨v28,hV⟩:=nmz (World.alloc v (.cells #[.bool false,.slice none 0 0] 25))
   obtain ⟨aA,hg⟩:=nmz (v.heap.size)
   rw [hV] at aN bF ⊢
   rw [hg] at bF ⊢
   have eE:=hJ (show w18.heap.size≤aA by rw [←hg]; exact aB.out.size)
   clear hV hg
   have cC:=hJ (bt aB.out aN.out)
   have eF:=hJ (PIo.new aD.out aN.out)
   have eG:=hJ (PIo.new aE.out aN.out)
   have eH:=hJ (PIo.new aG.out aN.out)
   have eI:=hJ (PIo.new aH.out aN.out)
   clear hHeld
   refine hK.out _ _ (aC.out _ cC.out) (fun hHeld=>?_)
   clear hK K
   try simp only [PT]
   exact wpAnyH_cast (by kernel_rfl) (aV s11 A11 n11 c11 s12 A12 n12 c12 s13 A13 n13 c13 s14 A14 n14 c14 aA v28 cC eF eG eH eI bF eE)
  have aW:∀ (s11:Bool) (A11:Option Addr) (n11:Nat) (c11:Nat) (s12:Bool) (A12:Option Addr) (n12:Nat) (c12:Nat) (aA:Nat) (v:World),Hid (Below w18.heap.size w18 v)→Hid (PI v s11 A11 n11 c11 (ahV ax ay bx by' cx cy))→Hid (PI v s12 A12 n12 c12 (lfV ax ay bx by' cx cy))→Hid (BX 25 v aA #[.bool false,.slice none 0 0])→Hid (w18.heap.size≤aA)→F 7 (Array.setIfInBounds (Array.setIfInBounds L0 4 true) 13 true) (Act.put (Act.put a0 (some 34) (.agg #[.bool s11,.slice A11 n11 c11,.bool s12,.slice A12 n12 c12])) (some 12) (.pointer (some ⟨aA,0,none⟩))) v:=by
   intro s11 A11 n11 c11 s12 A12 n12 c12 aA v aB aD aE aF aI
   subst hF ha0 hL0
   simp only [PT] at aV ⊢
   have hHeld:=aC.out _ aB.out
   refine ryy [8] ?_
   refine .cons rfl (fun K hK=>?_) .nil
   go_simp
   go_at_call 131
   refine (view_any ax ay bx by' dx dy v H4.out.1 H4.out.2.1 H4.out.2.2.2).mono ?_
   rintro e v29 ⟨s13,A13,n13,c13,s14,A14,n14,c14,rfl,hr13,hr14,hb⟩
   have aX:=hJ hb
   have eJ:=hJ hr13
   have eK:=hJ hr14
   clear hb hr13 hr14
   go_wp2_with fail
   have cD:=hJ (bt aB.out aX.out)
   have eL:=hJ (PIo.new aD.out aX.out)
   have eM:=hJ (PIo.new aE.out aX.out)
   have eN:=hJ (BX.new aF.out aX.out)
   clear hHeld
   refine hK.out _ _ (aC.out _ cD.out) (fun hHeld=>?_)
   clear hK K
   try simp only [PT]
   exact wpAnyH_cast (by kernel_rfl) (aV s11 A11 n11 c11 s12 A12 n12 c12 s13 A13 n13 c13 s14 A14 n14 c14 aA v29 cD eL eM eJ eK eN aI)
  have cE:∀ (s11:Bool) (A11:Option Addr) (n11:Nat) (c11:Nat) (s12:Bool) (A12:Option Addr) (n12:Nat) (c12:Nat) (v:World),Hid (Below w18.heap.size w18 v)→Hid (PI v s11 A11 n11 c11 (ahV ax ay bx by' cx cy))→Hid (PI v s12 A12 n12 c12 (lfV ax ay bx by' cx cy))→F 8 (Array.setIfInBounds L0 4 true) (Act.put a0 (some 34) (.agg #[.bool s11,.slice A11 n11 c11,.bool s12,.slice A12 n12 c12])) v:=by
   intro s11 A11 n11 c11 s12 A12 n12 c12 v aB aD aE
   subst hF ha0 hL0
   simp only [PT] at cA aW ⊢
   have hHeld:=aC.out _ aB.out
   refine ryy [8,13] ?_
   refine .cons rfl (fun K hK=>?_) ?_
   go_simp
   go_at_call 131
   refine (view_any ax ay bx by' dx dy v H4.out.1 H4.out.2.1 H4.out.2.2.2).mono ?_
   rintro e v30 ⟨s13,A13,n13,c13,s14,A14,n14,c14,rfl,hr13,hr14,hb⟩
   have bG:=hJ hb
   have eO:=hJ hr13
   have eP:=hJ hr14
   clear hb hr13 hr14
   go_wp2_with fail
   have cF:=hJ (bt aB.out bG.out)
   have eQ:=hJ (PIo.new aD.out bG.out)
   have eR:=hJ (PIo.new aE.out bG.out)
   clear hHeld
   refine hK.out _ _ (aC.out _ cF.out) (fun hHeld=>?_)
   clear hK K
   try simp only [PT]
   exact wpAnyH_cast (by kernel_rfl) (cA s11 A11 n11 c11 s12 A12 n12 c12 s13 A13 n13 c13 s14 A14 n14 c14 v30 cF eQ eR eO eP)
   refine .cons rfl (fun K hK=>?_) .nil
   go_simp
   have aY:=hJ ((Below.refl v.heap.size v).alloc (Nat.le_refl _) (.cells #[.bool false,.slice none 0 0] 25))
   have bH:=hJ (BX.lit v 25 #[.bool false,.slice none 0 0])
   obtain ⟨v31,hV⟩:=nmz (World.alloc v (.cells #[.bool false,.slice none 0 0] 25))
   obtain ⟨aA,hg⟩:=nmz (v.heap.size)
   rw [hV] at aY bH ⊢
   rw [hg] at bH ⊢
   have eS:=hJ (show w18.heap.size≤aA by rw [←hg]; exact aB.out.size)
   clear hV hg
   have cG:=hJ (bt aB.out aY.out)
   have eT:=hJ (PIo.new aD.out aY.out)
   have eU:=hJ (PIo.new aE.out aY.out)
   clear hHeld
   refine hK.out _ _ (aC.out _ cG.out) (fun hHeld=>?_)
   clear hK K
   try simp only [PT]
   exact wpAnyH_cast (by kernel_rfl) (aW s11 A11 n11 c11 s12 A12 n12 c12 aA v31 cG eT eU bH eS)
  have cH:∀ (aA:Nat) (v:World),Hid (Below w18.heap.size w18 v)→Hid (BX 25 v aA #[.bool false,.slice none 0 0])→Hid (w18.heap.size≤aA)→F 8 (Array.setIfInBounds L0 13 true) (Act.put a0 (some 12) (.pointer (some ⟨aA,0,none⟩))) v:=by
   intro aA v aB aF aI
   subst hF ha0 hL0
   simp only [PT] at aW ⊢
   have hHeld:=aC.out _ aB.out
   refine ryy [4] ?_
   refine .cons rfl (fun K hK=>?_) .nil
   go_simp
   go_at_call 131
   refine (view_any ax ay bx by' cx cy v H4.out.1 H4.out.2.1 H4.out.2.2.1).mono ?_
   rintro e v32 ⟨s11,A11,n11,c11,s12,A12,n12,c12,rfl,hr11,hr12,hb⟩
   have cI:=hJ hb
   have eV:=hJ hr11
   have eW:=hJ hr12
   clear hb hr11 hr12
   go_wp2_with fail
   have cJ:=hJ (bt aB.out cI.out)
   have eX:=hJ (BX.new aF.out cI.out)
   clear hHeld
   refine hK.out _ _ (aC.out _ cJ.out) (fun hHeld=>?_)
   clear hK K
   try simp only [PT]
   exact wpAnyH_cast (by kernel_rfl) (aW s11 A11 n11 c11 s12 A12 n12 c12 aA v32 cJ eV eW eX aI)
  subst hF ha0 hL0
  simp only [PT] at cE cH
  refine ryy [4,13] ?_
  refine .cons rfl (fun K hK=>?_) ?_
  go_simp
  go_at_call 131
  refine (view_any ax ay bx by' cx cy v19 H4.out.1 H4.out.2.1 H4.out.2.2.1).mono ?_
  rintro e v33 ⟨s11,A11,n11,c11,s12,A12,n12,c12,rfl,hr11,hr12,hb⟩
  have eY:=hJ hb
  have eZ:=hJ hr11
  have fA:=hJ hr12
  clear hb hr11 hr12
  go_wp2_with fail
  have cK:=hJ (bt bB.out eY.out)
  clear hHeld
  refine hK.out _ _ (aC.out _ cK.out) (fun hHeld=>?_)
  clear hK K
  try simp only [PT]
  exact wpAnyH_cast (by kernel_rfl) (cE s11 A11 n11 c11 s12 A12 n12 c12 v33 cK eZ fA)
  refine .cons rfl (fun K hK=>?_) .nil
  go_simp
  have cL:=hJ ((Below.refl v19.heap.size v19).alloc (Nat.le_refl _) (.cells #[.bool false,.slice none 0 0] 25))
  have bJ:=hJ (BX.lit v19 25 #[.bool false,.slice none 0 0])
  obtain ⟨v34,hV⟩:=nmz (World.alloc v19 (.cells #[.bool false,.slice none 0 0] 25))
  obtain ⟨aA,hg⟩:=nmz (v19.heap.size)
  rw [hV] at cL bJ ⊢
  rw [hg] at bJ ⊢
  have fB:=hJ (show w18.heap.size≤aA by rw [←hg]; exact bB.out.size)
  clear hV hg
  have cM:=hJ (bt bB.out cL.out)
  clear hHeld
  refine hK.out _ _ (aC.out _ cM.out) (fun hHeld=>?_)
  clear hK K
  try simp only [PT]
  exact wpAnyH_cast (by kernel_rfl) (cH aA v34 cM bJ fB)
 ·have hEz:(E == 0)=false:=by simp [hE0]
  have HV:=hJ (show crV ax ay bx by' cx cy dx dy=0∧crE ax ay bx by' cx cy dx dy=E from ⟨if_neg (by rw [HE.out]; exact hE0),by rw [crE,HE.out,if_neg hE0]⟩)
  clear hE0
  have fC:=hJ (bt (bt aZ.out aP.out) aQ.out)
  go_wp2
  go_ret2
  exact ⟨by rw [HV.out.1,HV.out.2] <;> rfl,fC.out⟩
theorem p6_any (x y:Int) (w:World) :
  Calls Tryz.prog 108 #[.int .i64 x,.int .i64 y] w fun e w'=>e=.returned (.agg #[.int .i64 x,.int .i64 y])∧Below w.heap.size w w':=by
 obtain ⟨x1,aA⟩:=nmz (w.alloc (.cells #[.int .i64 x,.int .i64 y] 87))
 have aB:=hJ (show Below w.heap.size w x1 by rw [←aA]; exact ((Below.refl _ _).alloc (Nat.le_refl _) _))
 have aC:=hJ (show BX 87 x1 w.heap.size #[.int .i64 x,.int .i64 y] by rw [←aA]; exact (BX.at rfl))
 go_enter Tryz.func108,Tryz.ntmps108
 go_wp2
 clear aA
 exact bodyPost_ret (results_cell_row rfl _ _ _ _ _ _ _ rfl aC.out Tryz.underlying87 rfl G_size) rfl ⟨rfl,aB.out⟩
theorem lives6_any (w:World) :
  Calls Tryz.prog 40 #[] w fun e w'=>e=.returned (.bool true)∧Below w.heap.size w w':=by
 go_enter Tryz.func40,Tryz.ntmps40
 go_wp2_with fail
 refine (p6_any 0 0 w).mono ?_
 rintro e w1 ⟨rfl,hb⟩
 have aA:=hJ hb
 clear hb
 go_wp2_with fail
 refine (p6_any 1 0 w1).mono ?_
 rintro e w2 ⟨rfl,hb⟩
 have aB:=hJ hb
 clear hb
 go_wp2_with fail
 refine (p6_any 0 1 w2).mono ?_
 rintro e w3 ⟨rfl,hb⟩
 have aC:=hJ hb
 clear hb
 go_wp2_with fail
 refine (sideof_any 0 0 1 0 0 1 w3).mono ?_
 rw [show soV 0 0 1 0 0 1=1 by decide,show soE 0 0 1 0 0 1=0 by decide]
 rintro e w4 ⟨rfl,hb⟩
 have aD:=hJ hb
 clear hb
 go_wp2_with fail
 refine (p6_any 0 0 w4).mono ?_
 rintro e w5 ⟨rfl,hb⟩
 have aE:=hJ hb
 clear hb
 go_wp2_with fail
 refine (p6_any 2 0 w5).mono ?_
 rintro e w6 ⟨rfl,hb⟩
 have aF:=hJ hb
 clear hb
 go_wp2_with fail
 refine (p6_any 0 2 w6).mono ?_
 rintro e w7 ⟨rfl,hb⟩
 have aG:=hJ hb
 clear hb
 go_wp2_with fail
 refine (p6_any 2 2 w7).mono ?_
 rintro e w8 ⟨rfl,hb⟩
 have aH:=hJ hb
 clear hb
 go_wp2_with fail
 refine (circle_any 0 0 2 0 0 2 2 2 w8).mono ?_
 rw [show crV 0 0 2 0 0 2 2 2=0 by decide,show crE 0 0 2 0 0 2 2 2=0 by decide]
 rintro e w9 ⟨rfl,hb⟩
 have aI:=hJ hb
 clear hb
 go_wp2_with fail
 refine (p6_any 0 0 w9).mono ?_
 rintro e w10 ⟨rfl,hb⟩
 have aJ:=hJ hb
 clear hb
 go_wp2_with fail
 refine (p6_any 2 0 w10).mono ?_
 rintro e w11 ⟨rfl,hb⟩
 have aK:=hJ hb
 clear hb
 go_wp2_with fail
 refine (p6_any 0 2 w11).mono ?_
 rintro e w12 ⟨rfl,hb⟩
 have aL:=hJ hb
 clear hb
 go_wp2_with fail
 refine (p6_any 1 1 w12).mono ?_
 rintro e w13 ⟨rfl,hb⟩
 have aM:=hJ hb
 clear hb
 go_wp2_with fail
 refine (circle_any 0 0 2 0 0 2 1 1 w13).mono ?_
 rw [show crV 0 0 2 0 0 2 1 1=1 by decide,show crE 0 0 2 0 0 2 1 1=0 by decide]
 rintro e w14 ⟨rfl,hb⟩
 have aN:=hJ hb
 clear hb
 go_wp2_with fail
 refine (p6_any 0 (-1) w14).mono ?_
 rintro e w15 ⟨rfl,hb⟩
 have aO:=hJ hb
 clear hb
 go_wp2_with fail
 refine (p6_any (-1) 0 w15).mono ?_
 rintro e w16 ⟨rfl,hb⟩
 have aP:=hJ hb
 clear hb
 go_wp2_with fail
 refine (turn_any 0 (-1) (-1) 0 w16).mono ?_
 rw [show tuV 0 (-1) (-1) 0=1 by decide,show tuE 0 (-1) (-1) 0=0 by decide]
 rintro e w17 ⟨rfl,hb⟩
 have aQ:=hJ hb
 clear hb
 have aR:=hJ (bt (bt (bt (bt (bt (bt (bt (bt (bt (bt (bt (bt (bt (bt (bt (bt aA.out aB.out) aC.out) aD.out) aE.out) aF.out) aG.out) aH.out) aI.out) aJ.out) aK.out) aL.out) aM.out) aN.out) aO.out) aP.out) aQ.out)
 go_wp2
 go_ret
 exact ⟨by first | rfl | kernel_rfl,aR.out⟩
end Go.Proofs.YteggneaefggbmaaGreat
