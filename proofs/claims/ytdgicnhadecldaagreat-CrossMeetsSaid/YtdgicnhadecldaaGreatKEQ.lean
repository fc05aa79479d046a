/- Contracts: the steps of doubledArea over fractions. Conditions: as each statement has them. -/
import Derived.Test.YtdgicnhadecldaaGreatKAE
import Derived.Test.YtdgicnhadecldaaGreatKQL
import Derived.Laws.EntriesVeiled
namespace Go.Proofs.YtdgicnhadecldaaGreat
set_option maxRecDepth 100000
set_option maxHeartbeats 12800000
open Go.RowKit
attribute [local go_sem ↓] Go.wp_at_zero Go.wp_at_succ
set_option linter.unusedVariables false
set_option linter.unusedSimpArgs false
def feP (c P:Int):Int:=if c=0 then P else 0
def feQ (c Q:Int):Int:=if c=0 then Q else 1
theorem feV_n {c:Int} {l:List Int} (h:c≠0):feV (c :: l)=c:=if_neg h
theorem F2_size:(Tryz.prog.info? 101).map (·.size)=some 8:=by kernel_rfl
theorem gx7_0 {v0 v1 v2 v3 v4 v5 v6:Value} (wx:World):(Instr.index 200 (.agg #[v0,v1,v2,v3,v4,v5,v6]) (.int .i64 0)).run Tryz.prog wx=.ok v0 wx:=by
 first
  | kernel_rfl
  | simp [Instr.index,run_underlying Tryz.underlying200,asIntOf,go_sem]
theorem gx7_1 {v0 v1 v2 v3 v4 v5 v6:Value} (wx:World):(Instr.index 200 (.agg #[v0,v1,v2,v3,v4,v5,v6]) (.int .i64 1)).run Tryz.prog wx=.ok v1 wx:=by
 first
  | kernel_rfl
  | simp [Instr.index,run_underlying Tryz.underlying200,asIntOf,go_sem]
theorem gx7_2 {v0 v1 v2 v3 v4 v5 v6:Value} (wx:World):(Instr.index 200 (.agg #[v0,v1,v2,v3,v4,v5,v6]) (.int .i64 2)).run Tryz.prog wx=.ok v2 wx:=by
 first
  | kernel_rfl
  | simp [Instr.index,run_underlying Tryz.underlying200,asIntOf,go_sem]
theorem gx7_3 {v0 v1 v2 v3 v4 v5 v6:Value} (wx:World):(Instr.index 200 (.agg #[v0,v1,v2,v3,v4,v5,v6]) (.int .i64 3)).run Tryz.prog wx=.ok v3 wx:=by
 first
  | kernel_rfl
  | simp [Instr.index,run_underlying Tryz.underlying200,asIntOf,go_sem]
theorem gx7_4 {v0 v1 v2 v3 v4 v5 v6:Value} (wx:World):(Instr.index 200 (.agg #[v0,v1,v2,v3,v4,v5,v6]) (.int .i64 4)).run Tryz.prog wx=.ok v4 wx:=by
 first
  | kernel_rfl
  | simp [Instr.index,run_underlying Tryz.underlying200,asIntOf,go_sem]
theorem gx7_5 {v0 v1 v2 v3 v4 v5 v6:Value} (wx:World):(Instr.index 200 (.agg #[v0,v1,v2,v3,v4,v5,v6]) (.int .i64 5)).run Tryz.prog wx=.ok v5 wx:=by
 first
  | kernel_rfl
  | simp [Instr.index,run_underlying Tryz.underlying200,asIntOf,go_sem]
theorem gx7_6 {v0 v1 v2 v3 v4 v5 v6:Value} (wx:World):(Instr.index 200 (.agg #[v0,v1,v2,v3,v4,v5,v6]) (.int .i64 6)).run Tryz.prog wx=.ok v6 wx:=by
 first
  | kernel_rfl
  | simp [Instr.index,run_underlying Tryz.underlying200,asIntOf,go_sem]
theorem fda1_any (p q r s:Int) (s0:Bool) (A0:Option Addr) (n0 c0:Nat) (t0:Bool) (B0:Option Addr) (m0 d0:Nat) (s1:Bool) (A1:Option Addr) (n1 c1:Nat) (t1:Bool) (B1:Option Addr) (m1 d1:Nat) (s2:Bool) (A2:Option Addr) (n2 c2:Nat) (t2:Bool) (B2:Option Addr) (m2 d2:Nat) (s3:Bool) (A3:Option Addr) (n3 c3:Nat) (t3:Bool) (B3:Option Addr) (m3 d3:Nat) (gf gb ga:Nat) (w:World) (hf:BX 119 w gf #[.func (.func 102) #[] #[]]) (hb0:BX 101 w gb #[.bool s0,.slice A0 n0 c0,.bool t0,.slice B0 m0 d0,.bool s1,.slice A1 n1 c1,.bool t1,.slice B1 m1 d1]) (ha0:BX 101 w ga #[.bool s2,.slice A2 n2 c2,.bool t2,.slice B2 m2 d2,.bool s3,.slice A3 n3 c3,.bool t3,.slice B3 m3 d3]) (hx:PF w s0 A0 n0 c0 t0 B0 m0 d0 p q) (hy:PF w s2 A2 n2 c2 t2 B2 m2 d2 r s) (fx:Fr p q) (fy:Fr r s) :
  Calls Tryz.prog 139 #[.pointer (some ⟨gf,0,none⟩),.pointer (some ⟨gb,0,none⟩),.pointer (some ⟨ga,0,none⟩)] w (RetFE (adP p q (-r) s) (adQ p q (-r) s) (adC p q (-r) s) w):=by
 have HF:=hJ hf
 have HB:=hJ hb0
 have HA:=hJ ha0
 have HX:=hJ hx
 have HY:=hJ hy
 have aC:=hJ fx
 have aD:=hJ fy
 clear hf hb0 hx hy fx fy ha0
 obtain ⟨x1,aG⟩:=nmz (w.alloc (.cells #[.bool false,.slice none 0 0,.bool false,.slice none 0 0] 35))
 have aB:=hJ (show Below w.heap.size w x1 by rw [←aG]; exact ((Below.refl _ _).alloc (Nat.le_refl _) _))
 have aK:=hJ (show BX 35 x1 w.heap.size #[.bool false,.slice none 0 0,.bool false,.slice none 0 0] by rw [←aG]; exact (BX.at rfl))
 have aL:=hJ (show w.heap.size≤w.heap.size by omega)
 have aM:=hJ (BX.new HF.out aB.out)
 have aO:=aM.out.cell 0 rfl
 have aR:=hJ (BX.new HB.out aB.out)
 obtain ⟨aS,aT,aU,aV⟩:=aR.out.c4 0 1 2 3 rfl rfl rfl rfl
 have aW:=hJ (BX.new HA.out aB.out)
 obtain ⟨aX,aY,aZ,bA⟩:=aW.out.c4 0 1 2 3 rfl rfl rfl rfl
 have bB:=hJ (PF.new HX.out aB.out)
 have bC:=hJ (PF.new HY.out aB.out)
 go_enter Tryz.func139,Tryz.ntmps139
 go_wp2_with fail
 clear aG aO aS aT aU aV aX aY aZ bA
 refine (fsub_any p q r s s0 t0 s2 t2 A0 B0 A2 B2 n0 c0 m0 d0 n2 c2 m2 d2 x1 bB.out bC.out aC.out.1.1 aD.out.1.1 aC.out.2.1 aC.out.2.2 aD.out.2.1 aD.out.2.2).mono ?_
 rintro e w11 ⟨s11,A11,n11,c11,t11,B11,m11,d11,rfl,hr11,hb⟩
 have aI:=hJ hb
 have bD:=hJ hr11
 clear hb hr11
 have aA:=hJ (BX.new aK.out aI.out)
 have bE:=aA.out.frozen 0
 have bF:=aA.out.cell 0 rfl
 have bG:=aA.out.frozen 1
 have bH:=aA.out.cell 1 rfl
 have bJ:=aA.out.frozen 2
 have bK:=aA.out.cell 2 rfl
 have bL:=aA.out.frozen 3
 have bM:=aA.out.cell 3 rfl
 obtain ⟨x12,aJ⟩:=nmz (World.setCell (World.setCell (World.setCell (World.setCell w11 ⟨w.heap.size,0,none⟩ (.bool s11)) ⟨w.heap.size,1,none⟩ (.slice A11 n11 c11)) ⟨w.heap.size,2,none⟩ (.bool t11)) ⟨w.heap.size,3,none⟩ (.slice B11 m11 d11))
 have aH:=hJ (show sto w11 w.heap.size 0 [.bool s11,.slice A11 n11 c11,.bool t11,.slice B11 m11 d11]=x12 from aJ)
 have bN:=hJ (show BX 35 x12 w.heap.size #[.bool s11,.slice A11 n11 c11,.bool t11,.slice B11 m11 d11] by rw [←aH.out]; exact BX.put aA.out _ _)
 have bO:=hJ (show Below w.heap.size w x12 by rw [←aH.out]; exact below_sto (bt aB.out aI.out) aL.out _ _)
 have bP:=hJ (show PF x12 s11 A11 n11 c11 t11 B11 m11 d11 (adP p q (-r) s) (adQ p q (-r) s) by rw [←aH.out]; exact PF.sto bD.out aA.out rfl _ _)
 go_wp2
 clear bE bF bG bH bJ bK bL bM aJ
 exact bodyPost_ret (results_cell1 rfl _ _ _ _ _ _ _ rfl bN.out Tryz.underlying35 rfl F_size) rfl ⟨s11,A11,n11,c11,t11,B11,m11,d11,rfl,bP.out,bO.out⟩
theorem fda2_any (p q r s:Int) (s0:Bool) (A0:Option Addr) (n0 c0:Nat) (t0:Bool) (B0:Option Addr) (m0 d0:Nat) (s1:Bool) (A1:Option Addr) (n1 c1:Nat) (t1:Bool) (B1:Option Addr) (m1 d1:Nat) (s2:Bool) (A2:Option Addr) (n2 c2:Nat) (t2:Bool) (B2:Option Addr) (m2 d2:Nat) (s3:Bool) (A3:Option Addr) (n3 c3:Nat) (t3:Bool) (B3:Option Addr) (m3 d3:Nat) (gf gb ga:Nat) (w:World) (hf:BX 119 w gf #[.func (.func 102) #[] #[]]) (hb0:BX 101 w gb #[.bool s0,.slice A0 n0 c0,.bool t0,.slice B0 m0 d0,.bool s1,.slice A1 n1 c1,.bool t1,.slice B1 m1 d1]) (ha0:BX 101 w ga #[.bool s2,.slice A2 n2 c2,.bool t2,.slice B2 m2 d2,.bool s3,.slice A3 n3 c3,.bool t3,.slice B3 m3 d3]) (hx:PF w s1 A1 n1 c1 t1 B1 m1 d1 p q) (hy:PF w s3 A3 n3 c3 t3 B3 m3 d3 r s) (fx:Fr p q) (fy:Fr r s) :
  Calls Tryz.prog 140 #[.pointer (some ⟨gf,0,none⟩),.pointer (some ⟨gb,0,none⟩),.pointer (some ⟨ga,0,none⟩)] w (RetFE (adP p q (-r) s) (adQ p q (-r) s) (adC p q (-r) s) w):=by
 have HF:=hJ hf
 have HB:=hJ hb0
 have HA:=hJ ha0
 have HX:=hJ hx
 have HY:=hJ hy
 have aC:=hJ fx
 have aD:=hJ fy
 clear hf hb0 hx hy fx fy ha0
 obtain ⟨x1,aG⟩:=nmz (w.alloc (.cells #[.bool false,.slice none 0 0,.bool false,.slice none 0 0] 35))
 have aB:=hJ (show Below w.heap.size w x1 by rw [←aG]; exact ((Below.refl _ _).alloc (Nat.le_refl _) _))
 have aK:=hJ (show BX 35 x1 w.heap.size #[.bool false,.slice none 0 0,.bool false,.slice none 0 0] by rw [←aG]; exact (BX.at rfl))
 have aL:=hJ (show w.heap.size≤w.heap.size by omega)
 have aM:=hJ (BX.new HF.out aB.out)
 have aO:=aM.out.cell 0 rfl
 have aR:=hJ (BX.new HB.out aB.out)
 obtain ⟨aS,aT,aU,aV⟩:=aR.out.c4 4 5 6 7 rfl rfl rfl rfl
 have aW:=hJ (BX.new HA.out aB.out)
 obtain ⟨aX,aY,aZ,bA⟩:=aW.out.c4 4 5 6 7 rfl rfl rfl rfl
 have bB:=hJ (PF.new HX.out aB.out)
 have bC:=hJ (PF.new HY.out aB.out)
 go_enter Tryz.func140,Tryz.ntmps140
 go_wp2_with fail
 clear aG aO aS aT aU aV aX aY aZ bA
 refine (fsub_any p q r s s1 t1 s3 t3 A1 B1 A3 B3 n1 c1 m1 d1 n3 c3 m3 d3 x1 bB.out bC.out aC.out.1.1 aD.out.1.1 aC.out.2.1 aC.out.2.2 aD.out.2.1 aD.out.2.2).mono ?_
 rintro e w11 ⟨s11,A11,n11,c11,t11,B11,m11,d11,rfl,hr11,hb⟩
 have aI:=hJ hb
 have bD:=hJ hr11
 clear hb hr11
 have aA:=hJ (BX.new aK.out aI.out)
 have bE:=aA.out.frozen 0
 have bF:=aA.out.cell 0 rfl
 have bG:=aA.out.frozen 1
 have bH:=aA.out.cell 1 rfl
 have bJ:=aA.out.frozen 2
 have bK:=aA.out.cell 2 rfl
 have bL:=aA.out.frozen 3
 have bM:=aA.out.cell 3 rfl
 obtain ⟨x12,aJ⟩:=nmz (World.setCell (World.setCell (World.setCell (World.setCell w11 ⟨w.heap.size,0,none⟩ (.bool s11)) ⟨w.heap.size,1,none⟩ (.slice A11 n11 c11)) ⟨w.heap.size,2,none⟩ (.bool t11)) ⟨w.heap.size,3,none⟩ (.slice B11 m11 d11))
 have aH:=hJ (show sto w11 w.heap.size 0 [.bool s11,.slice A11 n11 c11,.bool t11,.slice B11 m11 d11]=x12 from aJ)
 have bN:=hJ (show BX 35 x12 w.heap.size #[.bool s11,.slice A11 n11 c11,.bool t11,.slice B11 m11 d11] by rw [←aH.out]; exact BX.put aA.out _ _)
 have bO:=hJ (show Below w.heap.size w x12 by rw [←aH.out]; exact below_sto (bt aB.out aI.out) aL.out _ _)
 have bP:=hJ (show PF x12 s11 A11 n11 c11 t11 B11 m11 d11 (adP p q (-r) s) (adQ p q (-r) s) by rw [←aH.out]; exact PF.sto bD.out aA.out rfl _ _)
 go_wp2
 clear bE bF bG bH bJ bK bL bM aJ
 exact bodyPost_ret (results_cell1 rfl _ _ _ _ _ _ _ rfl bN.out Tryz.underlying35 rfl F_size) rfl ⟨s11,A11,n11,c11,t11,B11,m11,d11,rfl,bP.out,bO.out⟩
theorem fda3_any (p q r s:Int) (s0:Bool) (A0:Option Addr) (n0 c0:Nat) (t0:Bool) (B0:Option Addr) (m0 d0:Nat) (s1:Bool) (A1:Option Addr) (n1 c1:Nat) (t1:Bool) (B1:Option Addr) (m1 d1:Nat) (s2:Bool) (A2:Option Addr) (n2 c2:Nat) (t2:Bool) (B2:Option Addr) (m2 d2:Nat) (s3:Bool) (A3:Option Addr) (n3 c3:Nat) (t3:Bool) (B3:Option Addr) (m3 d3:Nat) (s4:Bool) (A4:Option Addr) (n4 c4:Nat) (t4:Bool) (B4:Option Addr) (m4 d4:Nat) (s5:Bool) (A5:Option Addr) (n5 c5:Nat) (t5:Bool) (B5:Option Addr) (m5 d5:Nat) (s6:Bool) (A6:Option Addr) (n6 c6:Nat) (t6:Bool) (B6:Option Addr) (m6 d6:Nat) (gf gb:Nat) (w:World) (hf:BX 119 w gf #[.func (.func 66) #[] #[]]) (hb0:BX 198 w gb #[.bool s0,.slice A0 n0 c0,.bool t0,.slice B0 m0 d0,.bool s1,.slice A1 n1 c1,.bool t1,.slice B1 m1 d1,.bool s2,.slice A2 n2 c2,.bool t2,.slice B2 m2 d2,.bool s3,.slice A3 n3 c3,.bool t3,.slice B3 m3 d3,.bool s4,.slice A4 n4 c4,.bool t4,.slice B4 m4 d4,.bool s5,.slice A5 n5 c5,.bool t5,.slice B5 m5 d5,.bool s6,.slice A6 n6 c6,.bool t6,.slice B6 m6 d6]) (hx:PF w s0 A0 n0 c0 t0 B0 m0 d0 p q) (hy:PF w s1 A1 n1 c1 t1 B1 m1 d1 r s) (fx:Fr p q) (fy:Fr r s) :
  Calls Tryz.prog 141 #[.pointer (some ⟨gf,0,none⟩),.pointer (some ⟨gb,0,none⟩)] w (RetFE (muP p q r s) (muQ p q r s) (muC p q r s) w):=by
 have HF:=hJ hf
 have HB:=hJ hb0
 have HX:=hJ hx
 have HY:=hJ hy
 have aC:=hJ fx
 have aD:=hJ fy
 clear hf hb0 hx hy fx fy
 obtain ⟨x1,aG⟩:=nmz (w.alloc (.cells #[.bool false,.slice none 0 0,.bool false,.slice none 0 0] 35))
 have aB:=hJ (show Below w.heap.size w x1 by rw [←aG]; exact ((Below.refl _ _).alloc (Nat.le_refl _) _))
 have aL:=hJ (show BX 35 x1 w.heap.size #[.bool false,.slice none 0 0,.bool false,.slice none 0 0] by rw [←aG]; exact (BX.at rfl))
 have aM:=hJ (show w.heap.size≤w.heap.size by omega)
 have aO:=hJ (BX.new HF.out aB.out)
 have aR:=aO.out.cell 0 rfl
 have aI:=hJ (BX.new HB.out aB.out)
 obtain ⟨aS,aT,aU,aV⟩:=aI.out.c4 0 1 2 3 rfl rfl rfl rfl
 obtain ⟨aW,aX,aY,aZ⟩:=aI.out.c4 4 5 6 7 rfl rfl rfl rfl
 have bA:=hJ (PF.new HX.out aB.out)
 have bB:=hJ (PF.new HY.out aB.out)
 go_enter Tryz.func141,Tryz.ntmps141
 go_wp2_with fail
 clear aG aR aS aT aU aV aW aX aY aZ
 refine (fmul_any p q r s s0 t0 s1 t1 A0 B0 A1 B1 n0 c0 m0 d0 n1 c1 m1 d1 x1 bA.out bB.out aC.out.1.1 aD.out.1.1 aC.out.2.1 aC.out.2.2 aD.out.2.1 aD.out.2.2).mono ?_
 rintro e w11 ⟨s11,A11,n11,c11,t11,B11,m11,d11,rfl,hr11,hb⟩
 have aJ:=hJ hb
 have bC:=hJ hr11
 clear hb hr11
 have aA:=hJ (BX.new aL.out aJ.out)
 have bD:=aA.out.frozen 0
 have bE:=aA.out.cell 0 rfl
 have bF:=aA.out.frozen 1
 have bG:=aA.out.cell 1 rfl
 have bH:=aA.out.frozen 2
 have bJ:=aA.out.cell 2 rfl
 have bK:=aA.out.frozen 3
 have bL:=aA.out.cell 3 rfl
 obtain ⟨x12,aK⟩:=nmz (World.setCell (World.setCell (World.setCell (World.setCell w11 ⟨w.heap.size,0,none⟩ (.bool s11)) ⟨w.heap.size,1,none⟩ (.slice A11 n11 c11)) ⟨w.heap.size,2,none⟩ (.bool t11)) ⟨w.heap.size,3,none⟩ (.slice B11 m11 d11))
 have aH:=hJ (show sto w11 w.heap.size 0 [.bool s11,.slice A11 n11 c11,.bool t11,.slice B11 m11 d11]=x12 from aK)
 have bM:=hJ (show BX 35 x12 w.heap.size #[.bool s11,.slice A11 n11 c11,.bool t11,.slice B11 m11 d11] by rw [←aH.out]; exact BX.put aA.out _ _)
 have bN:=hJ (show Below w.heap.size w x12 by rw [←aH.out]; exact below_sto (bt aB.out aJ.out) aM.out _ _)
 have bO:=hJ (show PF x12 s11 A11 n11 c11 t11 B11 m11 d11 (muP p q r s) (muQ p q r s) by rw [←aH.out]; exact PF.sto bC.out aA.out rfl _ _)
 go_wp2
 clear bD bE bF bG bH bJ bK bL aK
 exact bodyPost_ret (results_cell1 rfl _ _ _ _ _ _ _ rfl bM.out Tryz.underlying35 rfl F_size) rfl ⟨s11,A11,n11,c11,t11,B11,m11,d11,rfl,bO.out,bN.out⟩
theorem fda4_any (p q r s:Int) (s0:Bool) (A0:Option Addr) (n0 c0:Nat) (t0:Bool) (B0:Option Addr) (m0 d0:Nat) (s1:Bool) (A1:Option Addr) (n1 c1:Nat) (t1:Bool) (B1:Option Addr) (m1 d1:Nat) (s2:Bool) (A2:Option Addr) (n2 c2:Nat) (t2:Bool) (B2:Option Addr) (m2 d2:Nat) (s3:Bool) (A3:Option Addr) (n3 c3:Nat) (t3:Bool) (B3:Option Addr) (m3 d3:Nat) (gf gb ga:Nat) (w:World) (hf:BX 119 w gf #[.func (.func 102) #[] #[]]) (hb0:BX 101 w gb #[.bool s0,.slice A0 n0 c0,.bool t0,.slice B0 m0 d0,.bool s1,.slice A1 n1 c1,.bool t1,.slice B1 m1 d1]) (ha0:BX 101 w ga #[.bool s2,.slice A2 n2 c2,.bool t2,.slice B2 m2 d2,.bool s3,.slice A3 n3 c3,.bool t3,.slice B3 m3 d3]) (hx:PF w s1 A1 n1 c1 t1 B1 m1 d1 p q) (hy:PF w s3 A3 n3 c3 t3 B3 m3 d3 r s) (fx:Fr p q) (fy:Fr r s) :
  Calls Tryz.prog 142 #[.pointer (some ⟨gf,0,none⟩),.pointer (some ⟨gb,0,none⟩),.pointer (some ⟨ga,0,none⟩)] w (RetFE (adP p q (-r) s) (adQ p q (-r) s) (adC p q (-r) s) w):=by
 have HF:=hJ hf
 have HB:=hJ hb0
 have HA:=hJ ha0
 have HX:=hJ hx
 have HY:=hJ hy
 have aC:=hJ fx
 have aD:=hJ fy
 clear hf hb0 hx hy fx fy ha0
 obtain ⟨x1,aG⟩:=nmz (w.alloc (.cells #[.bool false,.slice none 0 0,.bool false,.slice none 0 0] 35))
 have aB:=hJ (show Below w.heap.size w x1 by rw [←aG]; exact ((Below.refl _ _).alloc (Nat.le_refl _) _))
 have aK:=hJ (show BX 35 x1 w.heap.size #[.bool false,.slice none 0 0,.bool false,.slice none 0 0] by rw [←aG]; exact (BX.at rfl))
 have aL:=hJ (show w.heap.size≤w.heap.size by omega)
 have aM:=hJ (BX.new HF.out aB.out)
 have aO:=aM.out.cell 0 rfl
 have aR:=hJ (BX.new HB.out aB.out)
 obtain ⟨aS,aT,aU,aV⟩:=aR.out.c4 4 5 6 7 rfl rfl rfl rfl
 have aW:=hJ (BX.new HA.out aB.out)
 obtain ⟨aX,aY,aZ,bA⟩:=aW.out.c4 4 5 6 7 rfl rfl rfl rfl
 have bB:=hJ (PF.new HX.out aB.out)
 have bC:=hJ (PF.new HY.out aB.out)
 go_enter Tryz.func142,Tryz.ntmps142
 go_wp2_with fail
 clear aG aO aS aT aU aV aX aY aZ bA
 refine (fsub_any p q r s s1 t1 s3 t3 A1 B1 A3 B3 n1 c1 m1 d1 n3 c3 m3 d3 x1 bB.out bC.out aC.out.1.1 aD.out.1.1 aC.out.2.1 aC.out.2.2 aD.out.2.1 aD.out.2.2).mono ?_
 rintro e w11 ⟨s11,A11,n11,c11,t11,B11,m11,d11,rfl,hr11,hb⟩
 have aI:=hJ hb
 have bD:=hJ hr11
 clear hb hr11
 have aA:=hJ (BX.new aK.out aI.out)
 have bE:=aA.out.frozen 0
 have bF:=aA.out.cell 0 rfl
 have bG:=aA.out.frozen 1
 have bH:=aA.out.cell 1 rfl
 have bJ:=aA.out.frozen 2
 have bK:=aA.out.cell 2 rfl
 have bL:=aA.out.frozen 3
 have bM:=aA.out.cell 3 rfl
 obtain ⟨x12,aJ⟩:=nmz (World.setCell (World.setCell (World.setCell (World.setCell w11 ⟨w.heap.size,0,none⟩ (.bool s11)) ⟨w.heap.size,1,none⟩ (.slice A11 n11 c11)) ⟨w.heap.size,2,none⟩ (.bool t11)) ⟨w.heap.size,3,none⟩ (.slice B11 m11 d11))
 have aH:=hJ (show sto w11 w.heap.size 0 [.bool s11,.slice A11 n11 c11,.bool t11,.slice B11 m11 d11]=x12 from aJ)
 have bN:=hJ (show BX 35 x12 w.heap.size #[.bool s11,.slice A11 n11 c11,.bool t11,.slice B11 m11 d11] by rw [←aH.out]; exact BX.put aA.out _ _)
 have bO:=hJ (show Below w.heap.size w x12 by rw [←aH.out]; exact below_sto (bt aB.out aI.out) aL.out _ _)
 have bP:=hJ (show PF x12 s11 A11 n11 c11 t11 B11 m11 d11 (adP p q (-r) s) (adQ p q (-r) s) by rw [←aH.out]; exact PF.sto bD.out aA.out rfl _ _)
 go_wp2
 clear bE bF bG bH bJ bK bL bM aJ
 exact bodyPost_ret (results_cell1 rfl _ _ _ _ _ _ _ rfl bN.out Tryz.underlying35 rfl F_size) rfl ⟨s11,A11,n11,c11,t11,B11,m11,d11,rfl,bP.out,bO.out⟩
theorem fda5_any (p q r s:Int) (s0:Bool) (A0:Option Addr) (n0 c0:Nat) (t0:Bool) (B0:Option Addr) (m0 d0:Nat) (s1:Bool) (A1:Option Addr) (n1 c1:Nat) (t1:Bool) (B1:Option Addr) (m1 d1:Nat) (s2:Bool) (A2:Option Addr) (n2 c2:Nat) (t2:Bool) (B2:Option Addr) (m2 d2:Nat) (s3:Bool) (A3:Option Addr) (n3 c3:Nat) (t3:Bool) (B3:Option Addr) (m3 d3:Nat) (gf gb ga:Nat) (w:World) (hf:BX 119 w gf #[.func (.func 102) #[] #[]]) (hb0:BX 101 w gb #[.bool s0,.slice A0 n0 c0,.bool t0,.slice B0 m0 d0,.bool s1,.slice A1 n1 c1,.bool t1,.slice B1 m1 d1]) (ha0:BX 101 w ga #[.bool s2,.slice A2 n2 c2,.bool t2,.slice B2 m2 d2,.bool s3,.slice A3 n3 c3,.bool t3,.slice B3 m3 d3]) (hx:PF w s0 A0 n0 c0 t0 B0 m0 d0 p q) (hy:PF w s2 A2 n2 c2 t2 B2 m2 d2 r s) (fx:Fr p q) (fy:Fr r s) :
  Calls Tryz.prog 143 #[.pointer (some ⟨gf,0,none⟩),.pointer (some ⟨gb,0,none⟩),.pointer (some ⟨ga,0,none⟩)] w (RetFE (adP p q (-r) s) (adQ p q (-r) s) (adC p q (-r) s) w):=by
 have HF:=hJ hf
 have HB:=hJ hb0
 have HA:=hJ ha0
 have HX:=hJ hx
 have HY:=hJ hy
 have aC:=hJ fx
 have aD:=hJ fy
 clear hf hb0 hx hy fx fy ha0
 obtain ⟨x1,aG⟩:=nmz (w.alloc (.cells #[.bool false,.slice none 0 0,.bool false,.slice none 0 0] 35))
 have aB:=hJ (show Below w.heap.size w x1 by rw [←aG]; exact ((Below.refl _ _).alloc (Nat.le_refl _) _))
 have aK:=hJ (show BX 35 x1 w.heap.size #[.bool false,.slice none 0 0,.bool false,.slice none 0 0] by rw [←aG]; exact (BX.at rfl))
 have aL:=hJ (show w.heap.size≤w.heap.size by omega)
 have aM:=hJ (BX.new HF.out aB.out)
 have aO:=aM.out.cell 0 rfl
 have aR:=hJ (BX.new HB.out aB.out)
 obtain ⟨aS,aT,aU,aV⟩:=aR.out.c4 0 1 2 3 rfl rfl rfl rfl
 have aW:=hJ (BX.new HA.out aB.out)
 obtain ⟨aX,aY,aZ,bA⟩:=aW.out.c4 0 1 2 3 rfl rfl rfl rfl
 have bB:=hJ (PF.new HX.out aB.out)
 have bC:=hJ (PF.new HY.out aB.out)
 go_enter Tryz.func143,Tryz.ntmps143
 go_wp2_with fail
 clear aG aO aS aT aU aV aX aY aZ bA
 refine (fsub_any p q r s s0 t0 s2 t2 A0 B0 A2 B2 n0 c0 m0 d0 n2 c2 m2 d2 x1 bB.out bC.out aC.out.1.1 aD.out.1.1 aC.out.2.1 aC.out.2.2 aD.out.2.1 aD.out.2.2).mono ?_
 rintro e w11 ⟨s11,A11,n11,c11,t11,B11,m11,d11,rfl,hr11,hb⟩
 have aI:=hJ hb
 have bD:=hJ hr11
 clear hb hr11
 have aA:=hJ (BX.new aK.out aI.out)
 have bE:=aA.out.frozen 0
 have bF:=aA.out.cell 0 rfl
 have bG:=aA.out.frozen 1
 have bH:=aA.out.cell 1 rfl
 have bJ:=aA.out.frozen 2
 have bK:=aA.out.cell 2 rfl
 have bL:=aA.out.frozen 3
 have bM:=aA.out.cell 3 rfl
 obtain ⟨x12,aJ⟩:=nmz (World.setCell (World.setCell (World.setCell (World.setCell w11 ⟨w.heap.size,0,none⟩ (.bool s11)) ⟨w.heap.size,1,none⟩ (.slice A11 n11 c11)) ⟨w.heap.size,2,none⟩ (.bool t11)) ⟨w.heap.size,3,none⟩ (.slice B11 m11 d11))
 have aH:=hJ (show sto w11 w.heap.size 0 [.bool s11,.slice A11 n11 c11,.bool t11,.slice B11 m11 d11]=x12 from aJ)
 have bN:=hJ (show BX 35 x12 w.heap.size #[.bool s11,.slice A11 n11 c11,.bool t11,.slice B11 m11 d11] by rw [←aH.out]; exact BX.put aA.out _ _)
 have bO:=hJ (show Below w.heap.size w x12 by rw [←aH.out]; exact below_sto (bt aB.out aI.out) aL.out _ _)
 have bP:=hJ (show PF x12 s11 A11 n11 c11 t11 B11 m11 d11 (adP p q (-r) s) (adQ p q (-r) s) by rw [←aH.out]; exact PF.sto bD.out aA.out rfl _ _)
 go_wp2
 clear bE bF bG bH bJ bK bL bM aJ
 exact bodyPost_ret (results_cell1 rfl _ _ _ _ _ _ _ rfl bN.out Tryz.underlying35 rfl F_size) rfl ⟨s11,A11,n11,c11,t11,B11,m11,d11,rfl,bP.out,bO.out⟩
theorem fda6_any (p q r s:Int) (s0:Bool) (A0:Option Addr) (n0 c0:Nat) (t0:Bool) (B0:Option Addr) (m0 d0:Nat) (s1:Bool) (A1:Option Addr) (n1 c1:Nat) (t1:Bool) (B1:Option Addr) (m1 d1:Nat) (s2:Bool) (A2:Option Addr) (n2 c2:Nat) (t2:Bool) (B2:Option Addr) (m2 d2:Nat) (s3:Bool) (A3:Option Addr) (n3 c3:Nat) (t3:Bool) (B3:Option Addr) (m3 d3:Nat) (s4:Bool) (A4:Option Addr) (n4 c4:Nat) (t4:Bool) (B4:Option Addr) (m4 d4:Nat) (s5:Bool) (A5:Option Addr) (n5 c5:Nat) (t5:Bool) (B5:Option Addr) (m5 d5:Nat) (s6:Bool) (A6:Option Addr) (n6 c6:Nat) (t6:Bool) (B6:Option Addr) (m6 d6:Nat) (gf gb:Nat) (w:World) (hf:BX 119 w gf #[.func (.func 66) #[] #[]]) (hb0:BX 198 w gb #[.bool s0,.slice A0 n0 c0,.bool t0,.slice B0 m0 d0,.bool s1,.slice A1 n1 c1,.bool t1,.slice B1 m1 d1,.bool s2,.slice A2 n2 c2,.bool t2,.slice B2 m2 d2,.bool s3,.slice A3 n3 c3,.bool t3,.slice B3 m3 d3,.bool s4,.slice A4 n4 c4,.bool t4,.slice B4 m4 d4,.bool s5,.slice A5 n5 c5,.bool t5,.slice B5 m5 d5,.bool s6,.slice A6 n6 c6,.bool t6,.slice B6 m6 d6]) (hx:PF w s3 A3 n3 c3 t3 B3 m3 d3 p q) (hy:PF w s4 A4 n4 c4 t4 B4 m4 d4 r s) (fx:Fr p q) (fy:Fr r s) :
  Calls Tryz.prog 144 #[.pointer (some ⟨gf,0,none⟩),.pointer (some ⟨gb,0,none⟩)] w (RetFE (muP p q r s) (muQ p q r s) (muC p q r s) w):=by
 have HF:=hJ hf
 have HB:=hJ hb0
 have HX:=hJ hx
 have HY:=hJ hy
 have aC:=hJ fx
 have aD:=hJ fy
 clear hf hb0 hx hy fx fy
 obtain ⟨x1,aG⟩:=nmz (w.alloc (.cells #[.bool false,.slice none 0 0,.bool false,.slice none 0 0] 35))
 have aB:=hJ (show Below w.heap.size w x1 by rw [←aG]; exact ((Below.refl _ _).alloc (Nat.le_refl _) _))
 have aL:=hJ (show BX 35 x1 w.heap.size #[.bool false,.slice none 0 0,.bool false,.slice none 0 0] by rw [←aG]; exact (BX.at rfl))
 have aM:=hJ (show w.heap.size≤w.heap.size by omega)
 have aO:=hJ (BX.new HF.out aB.out)
 have aR:=aO.out.cell 0 rfl
 have aI:=hJ (BX.new HB.out aB.out)
 obtain ⟨aS,aT,aU,aV⟩:=aI.out.c4 12 13 14 15 rfl rfl rfl rfl
 obtain ⟨aW,aX,aY,aZ⟩:=aI.out.c4 16 17 18 19 rfl rfl rfl rfl
 have bA:=hJ (PF.new HX.out aB.out)
 have bB:=hJ (PF.new HY.out aB.out)
 go_enter Tryz.func144,Tryz.ntmps144
 go_wp2_with fail
 clear aG aR aS aT aU aV aW aX aY aZ
 refine (fmul_any p q r s s3 t3 s4 t4 A3 B3 A4 B4 n3 c3 m3 d3 n4 c4 m4 d4 x1 bA.out bB.out aC.out.1.1 aD.out.1.1 aC.out.2.1 aC.out.2.2 aD.out.2.1 aD.out.2.2).mono ?_
 rintro e w11 ⟨s11,A11,n11,c11,t11,B11,m11,d11,rfl,hr11,hb⟩
 have aJ:=hJ hb
 have bC:=hJ hr11
 clear hb hr11
 have aA:=hJ (BX.new aL.out aJ.out)
 have bD:=aA.out.frozen 0
 have bE:=aA.out.cell 0 rfl
 have bF:=aA.out.frozen 1
 have bG:=aA.out.cell 1 rfl
 have bH:=aA.out.frozen 2
 have bJ:=aA.out.cell 2 rfl
 have bK:=aA.out.frozen 3
 have bL:=aA.out.cell 3 rfl
 obtain ⟨x12,aK⟩:=nmz (World.setCell (World.setCell (World.setCell (World.setCell w11 ⟨w.heap.size,0,none⟩ (.bool s11)) ⟨w.heap.size,1,none⟩ (.slice A11 n11 c11)) ⟨w.heap.size,2,none⟩ (.bool t11)) ⟨w.heap.size,3,none⟩ (.slice B11 m11 d11))
 have aH:=hJ (show sto w11 w.heap.size 0 [.bool s11,.slice A11 n11 c11,.bool t11,.slice B11 m11 d11]=x12 from aK)
 have bM:=hJ (show BX 35 x12 w.heap.size #[.bool s11,.slice A11 n11 c11,.bool t11,.slice B11 m11 d11] by rw [←aH.out]; exact BX.put aA.out _ _)
 have bN:=hJ (show Below w.heap.size w x12 by rw [←aH.out]; exact below_sto (bt aB.out aJ.out) aM.out _ _)
 have bO:=hJ (show PF x12 s11 A11 n11 c11 t11 B11 m11 d11 (muP p q r s) (muQ p q r s) by rw [←aH.out]; exact PF.sto bC.out aA.out rfl _ _)
 go_wp2
 clear bD bE bF bG bH bJ bK bL aK
 exact bodyPost_ret (results_cell1 rfl _ _ _ _ _ _ _ rfl bM.out Tryz.underlying35 rfl F_size) rfl ⟨s11,A11,n11,c11,t11,B11,m11,d11,rfl,bO.out,bN.out⟩
theorem fda7_any (p q r s:Int) (s0:Bool) (A0:Option Addr) (n0 c0:Nat) (t0:Bool) (B0:Option Addr) (m0 d0:Nat) (s1:Bool) (A1:Option Addr) (n1 c1:Nat) (t1:Bool) (B1:Option Addr) (m1 d1:Nat) (s2:Bool) (A2:Option Addr) (n2 c2:Nat) (t2:Bool) (B2:Option Addr) (m2 d2:Nat) (s3:Bool) (A3:Option Addr) (n3 c3:Nat) (t3:Bool) (B3:Option Addr) (m3 d3:Nat) (s4:Bool) (A4:Option Addr) (n4 c4:Nat) (t4:Bool) (B4:Option Addr) (m4 d4:Nat) (s5:Bool) (A5:Option Addr) (n5 c5:Nat) (t5:Bool) (B5:Option Addr) (m5 d5:Nat) (s6:Bool) (A6:Option Addr) (n6 c6:Nat) (t6:Bool) (B6:Option Addr) (m6 d6:Nat) (gf gb:Nat) (w:World) (hf:BX 119 w gf #[.func (.func 102) #[] #[]]) (hb0:BX 198 w gb #[.bool s0,.slice A0 n0 c0,.bool t0,.slice B0 m0 d0,.bool s1,.slice A1 n1 c1,.bool t1,.slice B1 m1 d1,.bool s2,.slice A2 n2 c2,.bool t2,.slice B2 m2 d2,.bool s3,.slice A3 n3 c3,.bool t3,.slice B3 m3 d3,.bool s4,.slice A4 n4 c4,.bool t4,.slice B4 m4 d4,.bool s5,.slice A5 n5 c5,.bool t5,.slice B5 m5 d5,.bool s6,.slice A6 n6 c6,.bool t6,.slice B6 m6 d6]) (hx:PF w s2 A2 n2 c2 t2 B2 m2 d2 p q) (hy:PF w s5 A5 n5 c5 t5 B5 m5 d5 r s) (fx:Fr p q) (fy:Fr r s) :
  Calls Tryz.prog 145 #[.pointer (some ⟨gf,0,none⟩),.pointer (some ⟨gb,0,none⟩)] w (RetFE (adP p q (-r) s) (adQ p q (-r) s) (adC p q (-r) s) w):=by
 have HF:=hJ hf
 have HB:=hJ hb0
 have HX:=hJ hx
 have HY:=hJ hy
 have aC:=hJ fx
 have aD:=hJ fy
 clear hf hb0 hx hy fx fy
 obtain ⟨x1,aG⟩:=nmz (w.alloc (.cells #[.bool false,.slice none 0 0,.bool false,.slice none 0 0] 35))
 have aB:=hJ (show Below w.heap.size w x1 by rw [←aG]; exact ((Below.refl _ _).alloc (Nat.le_refl _) _))
 have aL:=hJ (show BX 35 x1 w.heap.size #[.bool false,.slice none 0 0,.bool false,.slice none 0 0] by rw [←aG]; exact (BX.at rfl))
 have aM:=hJ (show w.heap.size≤w.heap.size by omega)
 have aO:=hJ (BX.new HF.out aB.out)
 have aR:=aO.out.cell 0 rfl
 have aI:=hJ (BX.new HB.out aB.out)
 obtain ⟨aS,aT,aU,aV⟩:=aI.out.c4 8 9 10 11 rfl rfl rfl rfl
 obtain ⟨aW,aX,aY,aZ⟩:=aI.out.c4 20 21 22 23 rfl rfl rfl rfl
 have bA:=hJ (PF.new HX.out aB.out)
 have bB:=hJ (PF.new HY.out aB.out)
 go_enter Tryz.func145,Tryz.ntmps145
 go_wp2_with fail
 clear aG aR aS aT aU aV aW aX aY aZ
 refine (fsub_any p q r s s2 t2 s5 t5 A2 B2 A5 B5 n2 c2 m2 d2 n5 c5 m5 d5 x1 bA.out bB.out aC.out.1.1 aD.out.1.1 aC.out.2.1 aC.out.2.2 aD.out.2.1 aD.out.2.2).mono ?_
 rintro e w11 ⟨s11,A11,n11,c11,t11,B11,m11,d11,rfl,hr11,hb⟩
 have aJ:=hJ hb
 have bC:=hJ hr11
 clear hb hr11
 have aA:=hJ (BX.new aL.out aJ.out)
 have bD:=aA.out.frozen 0
 have bE:=aA.out.cell 0 rfl
 have bF:=aA.out.frozen 1
 have bG:=aA.out.cell 1 rfl
 have bH:=aA.out.frozen 2
 have bJ:=aA.out.cell 2 rfl
 have bK:=aA.out.frozen 3
 have bL:=aA.out.cell 3 rfl
 obtain ⟨x12,aK⟩:=nmz (World.setCell (World.setCell (World.setCell (World.setCell w11 ⟨w.heap.size,0,none⟩ (.bool s11)) ⟨w.heap.size,1,none⟩ (.slice A11 n11 c11)) ⟨w.heap.size,2,none⟩ (.bool t11)) ⟨w.heap.size,3,none⟩ (.slice B11 m11 d11))
 have aH:=hJ (show sto w11 w.heap.size 0 [.bool s11,.slice A11 n11 c11,.bool t11,.slice B11 m11 d11]=x12 from aK)
 have bM:=hJ (show BX 35 x12 w.heap.size #[.bool s11,.slice A11 n11 c11,.bool t11,.slice B11 m11 d11] by rw [←aH.out]; exact BX.put aA.out _ _)
 have bN:=hJ (show Below w.heap.size w x12 by rw [←aH.out]; exact below_sto (bt aB.out aJ.out) aM.out _ _)
 have bO:=hJ (show PF x12 s11 A11 n11 c11 t11 B11 m11 d11 (adP p q (-r) s) (adQ p q (-r) s) by rw [←aH.out]; exact PF.sto bC.out aA.out rfl _ _)
 go_wp2
 clear bD bE bF bG bH bJ bK bL aK
 exact bodyPost_ret (results_cell1 rfl _ _ _ _ _ _ _ rfl bM.out Tryz.underlying35 rfl F_size) rfl ⟨s11,A11,n11,c11,t11,B11,m11,d11,rfl,bO.out,bN.out⟩
theorem fdarea_any (p0 q0 p1 q1 p2 q2 p3 q3 p4 q4 p5 q5 P0 Q0 C0 P1 Q1 C1 P2 Q2 C2 P3 Q3 C3 P4 Q4 C4 P5 Q5 C5 P6 Q6 C6:Int) (s0:Bool) (A0:Option Addr) (n0 c0:Nat) (t0:Bool) (B0:Option Addr) (m0 d0:Nat) (s1:Bool) (A1:Option Addr) (n1 c1:Nat) (t1:Bool) (B1:Option Addr) (m1 d1:Nat) (s2:Bool) (A2:Option Addr) (n2 c2:Nat) (t2:Bool) (B2:Option Addr) (m2 d2:Nat) (s3:Bool) (A3:Option Addr) (n3 c3:Nat) (t3:Bool) (B3:Option Addr) (m3 d3:Nat) (s4:Bool) (A4:Option Addr) (n4 c4:Nat) (t4:Bool) (B4:Option Addr) (m4 d4:Nat) (s5:Bool) (A5:Option Addr) (n5 c5:Nat) (t5:Bool) (B5:Option Addr) (m5 d5:Nat) (w:World) (h0:PF w s0 A0 n0 c0 t0 B0 m0 d0 p0 q0) (h1:PF w s1 A1 n1 c1 t1 B1 m1 d1 p1 q1) (h2:PF w s2 A2 n2 c2 t2 B2 m2 d2 p2 q2) (h3:PF w s3 A3 n3 c3 t3 B3 m3 d3 p3 q3) (h4:PF w s4 A4 n4 c4 t4 B4 m4 d4 p4 q4) (h5:PF w s5 A5 n5 c5 t5 B5 m5 d5 p5 q5) (f0:Fr p0 q0) (f1:Fr p1 q1) (f2:Fr p2 q2) (f3:Fr p3 q3) (f4:Fr p4 q4) (f5:Fr p5 q5) (e0:adP p2 q2 (-p0) q0=P0∧adQ p2 q2 (-p0) q0=Q0∧adC p2 q2 (-p0) q0=C0) (e1:adP p5 q5 (-p1) q1=P1∧adQ p5 q5 (-p1) q1=Q1∧adC p5 q5 (-p1) q1=C1) (e2:muP P0 Q0 P1 Q1=P2∧muQ P0 Q0 P1 Q1=Q2∧muC P0 Q0 P1 Q1=C2) (e3:adP p3 q3 (-p1) q1=P3∧adQ p3 q3 (-p1) q1=Q3∧adC p3 q3 (-p1) q1=C3) (e4:adP p4 q4 (-p0) q0=P4∧adQ p4 q4 (-p0) q0=Q4∧adC p4 q4 (-p0) q0=C4) (e5:muP P3 Q3 P4 Q4=P5∧muQ P3 Q3 P4 Q4=Q5∧muC P3 Q3 P4 Q4=C5) (e6:adP P2 Q2 (-P5) Q5=P6∧adQ P2 Q2 (-P5) Q5=Q6∧adC P2 Q2 (-P5) Q5=C6) :
  Calls Tryz.prog 101 #[.func (.func 102) #[] #[],.func (.func 66) #[] #[],.agg #[.bool s0,.slice A0 n0 c0,.bool t0,.slice B0 m0 d0,.bool s1,.slice A1 n1 c1,.bool t1,.slice B1 m1 d1],.agg #[.bool s2,.slice A2 n2 c2,.bool t2,.slice B2 m2 d2,.bool s3,.slice A3 n3 c3,.bool t3,.slice B3 m3 d3],.agg #[.bool s4,.slice A4 n4 c4,.bool t4,.slice B4 m4 d4,.bool s5,.slice A5 n5 c5,.bool t5,.slice B5 m5 d5]] w (RetFE (feP (feV [C0,C1,C2,C3,C4,C5,C6]) P6) (feQ (feV [C0,C1,C2,C3,C4,C5,C6]) Q6) (feV [C0,C1,C2,C3,C4,C5,C6]) w):=by
 have fP:=hJ h0
 have eW:=hJ f0
 have fQ:=hJ h1
 have eX:=hJ f1
 have hV:=hJ h2
 have fR:=hJ f2
 have hW:=hJ h3
 have fS:=hJ f3
 have hX:=hJ h4
 have fT:=hJ f4
 have hY:=hJ h5
 have fU:=hJ f5
 have eP:=hJ e0
 have eQ:=hJ e1
 have eR:=hJ e2
 have eS:=hJ e3
 have eT:=hJ e4
 have eU:=hJ e5
 have fB:=hJ e6
 clear h0 f0 h1 f1 h2 f2 h3 f3 h4 f4 h5 f5 e0 e1 e2 e3 e4 e5 e6
 have fV:=hJ (show Fr P0 Q0 by rw [←eP.out.1,←eP.out.2.1]; exact fr_ad fR.out (fr_neg eW.out))
 have fW:=hJ (show Fr P1 Q1 by rw [←eQ.out.1,←eQ.out.2.1]; exact fr_ad fU.out (fr_neg eX.out))
 have hZ:=hJ (show Fr P2 Q2 by rw [←eR.out.1,←eR.out.2.1]; exact fr_mu fV.out fW.out)
 have fX:=hJ (show Fr P3 Q3 by rw [←eS.out.1,←eS.out.2.1]; exact fr_ad fS.out (fr_neg eX.out))
 have fY:=hJ (show Fr P4 Q4 by rw [←eT.out.1,←eT.out.2.1]; exact fr_ad fT.out (fr_neg eW.out))
 have iA:=hJ (show Fr P5 Q5 by rw [←eU.out.1,←eU.out.2.1]; exact fr_mu fX.out fY.out)
 have iB:=hJ (PF.zero w)
 obtain ⟨x1,eD⟩:=nmz ((((((w.alloc (.cells #[.func (.func 102) #[] #[]] 119)).alloc (.cells #[.func (.func 66) #[] #[]] 119)).alloc (.cells #[.bool s0,.slice A0 n0 c0,.bool t0,.slice B0 m0 d0,.bool s1,.slice A1 n1 c1,.bool t1,.slice B1 m1 d1] 101)).alloc (.cells #[.bool s2,.slice A2 n2 c2,.bool t2,.slice B2 m2 d2,.bool s3,.slice A3 n3 c3,.bool t3,.slice B3 m3 d3] 101)).alloc (.cells #[.bool s4,.slice A4 n4 c4,.bool t4,.slice B4 m4 d4,.bool s5,.slice A5 n5 c5,.bool t5,.slice B5 m5 d5] 101)).alloc (.cells #[.bool false,.slice none 0 0,.bool false,.slice none 0 0] 35))
 have dT:=hJ (show Below w.heap.size w x1 by rw [←eD]; exact (((((((Below.refl _ _).alloc (Nat.le_refl _) _).alloc (by simp only [World.size_alloc]; omega) _).alloc (by simp only [World.size_alloc]; omega) _).alloc (by simp only [World.size_alloc]; omega) _).alloc (by simp only [World.size_alloc]; omega) _).alloc (by simp only [World.size_alloc]; omega) _))
 have eV:=hJ (show BX 119 x1 w.heap.size #[.func (.func 102) #[] #[]] by rw [←eD]; exact ((((((BX.at rfl).alloc _).alloc _).alloc _).alloc _).alloc _))
 have fZ:=hJ (show BX 119 x1 (w.heap.size+1) #[.func (.func 66) #[] #[]] by rw [←eD]; exact (((((BX.at (by simp only [World.size_alloc])).alloc _).alloc _).alloc _).alloc _))
 have eY:=hJ (show BX 101 x1 (w.heap.size+2) #[.bool s0,.slice A0 n0 c0,.bool t0,.slice B0 m0 d0,.bool s1,.slice A1 n1 c1,.bool t1,.slice B1 m1 d1] by rw [←eD]; exact ((((BX.at (by simp only [World.size_alloc])).alloc _).alloc _).alloc _))
 have gA:=hJ (show BX 101 x1 (w.heap.size+3) #[.bool s2,.slice A2 n2 c2,.bool t2,.slice B2 m2 d2,.bool s3,.slice A3 n3 c3,.bool t3,.slice B3 m3 d3] by rw [←eD]; exact (((BX.at (by simp only [World.size_alloc])).alloc _).alloc _))
 have gB:=hJ (show BX 101 x1 (w.heap.size+4) #[.bool s4,.slice A4 n4 c4,.bool t4,.slice B4 m4 d4,.bool s5,.slice A5 n5 c5,.bool t5,.slice B5 m5 d5] by rw [←eD]; exact ((BX.at (by simp only [World.size_alloc])).alloc _))
 have eE:=hJ (show BX 35 x1 (w.heap.size+5) #[.bool false,.slice none 0 0,.bool false,.slice none 0 0] by rw [←eD]; exact (BX.at (by simp only [World.size_alloc])))
 have eF:=hJ (show w.heap.size≤w.heap.size+5 by omega)
 obtain ⟨x2,eZ⟩:=nmz ((x1.alloc (.cells #[.bool false,.slice none 0 0,.bool false,.slice none 0 0,.bool false,.slice none 0 0,.bool false,.slice none 0 0,.bool false,.slice none 0 0,.bool false,.slice none 0 0,.bool false,.slice none 0 0,.bool false,.slice none 0 0,.bool false,.slice none 0 0,.bool false,.slice none 0 0,.bool false,.slice none 0 0,.bool false,.slice none 0 0,.bool false,.slice none 0 0,.bool false,.slice none 0 0] 198)).alloc (.cells #[.func (.func 139) #[] #[.pointer (some ⟨w.heap.size,0,none⟩),.pointer (some ⟨w.heap.size+3,0,none⟩),.pointer (some ⟨w.heap.size+2,0,none⟩)],.func (.func 140) #[] #[.pointer (some ⟨w.heap.size,0,none⟩),.pointer (some ⟨w.heap.size+4,0,none⟩),.pointer (some ⟨w.heap.size+2,0,none⟩)],.func (.func 141) #[] #[.pointer (some ⟨w.heap.size+1,0,none⟩),.pointer (some ⟨x1.heap.size,0,none⟩)],.func (.func 142) #[] #[.pointer (some ⟨w.heap.size,0,none⟩),.pointer (some ⟨w.heap.size+3,0,none⟩),.pointer (some ⟨w.heap.size+2,0,none⟩)],.func (.func 143) #[] #[.pointer (some ⟨w.heap.size,0,none⟩),.pointer (some ⟨w.heap.size+4,0,none⟩),.pointer (some ⟨w.heap.size+2,0,none⟩)],.func (.func 144) #[] #[.pointer (some ⟨w.heap.size+1,0,none⟩),.pointer (some ⟨x1.heap.size,0,none⟩)],.func (.func 145) #[] #[.pointer (some ⟨w.heap.size,0,none⟩),.pointer (some ⟨x1.heap.size,0,none⟩)]] 200))
 have gC:=hJ (show Below x1.heap.size x1 x2 by rw [←eZ]; exact (((Below.refl _ _).alloc (Nat.le_refl _) _).alloc (by simp only [World.size_alloc]; omega) _))
 have iC:=hJ (show BX 198 x2 x1.heap.size #[.bool false,.slice none 0 0,.bool false,.slice none 0 0,.bool false,.slice none 0 0,.bool false,.slice none 0 0,.bool false,.slice none 0 0,.bool false,.slice none 0 0,.bool false,.slice none 0 0,.bool false,.slice none 0 0,.bool false,.slice none 0 0,.bool false,.slice none 0 0,.bool false,.slice none 0 0,.bool false,.slice none 0 0,.bool false,.slice none 0 0,.bool false,.slice none 0 0] by rw [←eZ]; exact ((BX.at rfl).alloc _))
 have cP:=hJ (show x1.heap.size≤x1.heap.size by omega)
 have fA:=hJ (show BX 200 x2 (x1.heap.size+1) #[.func (.func 139) #[] #[.pointer (some ⟨w.heap.size,0,none⟩),.pointer (some ⟨w.heap.size+3,0,none⟩),.pointer (some ⟨w.heap.size+2,0,none⟩)],.func (.func 140) #[] #[.pointer (some ⟨w.heap.size,0,none⟩),.pointer (some ⟨w.heap.size+4,0,none⟩),.pointer (some ⟨w.heap.size+2,0,none⟩)],.func (.func 141) #[] #[.pointer (some ⟨w.heap.size+1,0,none⟩),.pointer (some ⟨x1.heap.size,0,none⟩)],.func (.func 142) #[] #[.pointer (some ⟨w.heap.size,0,none⟩),.pointer (some ⟨w.heap.size+3,0,none⟩),.pointer (some ⟨w.heap.size+2,0,none⟩)],.func (.func 143) #[] #[.pointer (some ⟨w.heap.size,0,none⟩),.pointer (some ⟨w.heap.size+4,0,none⟩),.pointer (some ⟨w.heap.size+2,0,none⟩)],.func (.func 144) #[] #[.pointer (some ⟨w.heap.size+1,0,none⟩),.pointer (some ⟨x1.heap.size,0,none⟩)],.func (.func 145) #[] #[.pointer (some ⟨w.heap.size,0,none⟩),.pointer (some ⟨x1.heap.size,0,none⟩)]] by rw [←eZ]; exact (BX.at (by simp only [World.size_alloc])))
 obtain ⟨iD,iE,iF,iG⟩:=fA.out.q4 0 1 2 3
 have iH:=fA.out.cell 4 rfl
 have iI:=fA.out.cell 5 rfl
 have iJ:=fA.out.cell 6 rfl
 have iK:=hJ (bt dT.out gC.out)
 have eG:=hJ (PF.new iB.out iK.out)
 go_enter Tryz.func101,Tryz.ntmps101
 go_wp2_with fail
 clear eD eZ iD iE iF iG iH iI iJ
 go_loopw [27] (fun tv wr=>∃ (i:Nat) (aS:Bool) (aT:Option Addr) (aU:Nat) (aV:Nat) (aW:Bool) (aX:Option Addr) (aY:Nat) (aZ:Nat) (bA:Bool) (bB:Option Addr) (bC:Nat) (bD:Nat) (bE:Bool) (bF:Option Addr) (bG:Nat) (bH:Nat) (bJ:Bool) (bK:Option Addr) (bL:Nat) (bM:Nat) (bN:Bool) (bO:Option Addr) (bP:Nat) (bQ:Nat) (bR:Bool) (bS:Option Addr) (bT:Nat) (bU:Nat) (bV:Bool) (bW:Option Addr) (bX:Nat) (bY:Nat) (bZ:Bool) (cA:Option Addr) (cB:Nat) (cC:Nat) (cD:Bool) (cE:Option Addr) (cF:Nat) (cG:Nat) (cH:Bool) (cI:Option Addr) (cJ:Nat) (cK:Nat) (cL:Bool) (cM:Option Addr) (cN:Nat) (cO:Nat) (aG:Bool) (aH:Option Addr) (aI:Nat) (aJ:Nat) (aK:Bool) (aL:Option Addr) (aM:Nat) (aO:Nat) (y0_10:Int) (z0_10:Int) (y1_10:Int) (z1_10:Int) (y2_10:Int) (z2_10:Int) (y3_10:Int) (z3_10:Int) (y4_10:Int) (z4_10:Int) (y5_10:Int) (z5_10:Int) (y6_10:Int) (z6_10:Int),i≤7∧tv=.int .i64 (i:Int)∧BX 198 wr x1.heap.size #[.bool aS,.slice aT aU aV,.bool aW,.slice aX aY aZ,.bool bA,.slice bB bC bD,.bool bE,.slice bF bG bH,.bool bJ,.slice bK bL bM,.bool bN,.slice bO bP bQ,.bool bR,.slice bS bT bU,.bool bV,.slice bW bX bY,.bool bZ,.slice cA cB cC,.bool cD,.slice cE cF cG,.bool cH,.slice cI cJ cK,.bool cL,.slice cM cN cO,.bool aG,.slice aH aI aJ,.bool aK,.slice aL aM aO]∧PF wr aS aT aU aV aW aX aY aZ y0_10 z0_10∧PF wr bA bB bC bD bE bF bG bH y1_10 z1_10∧PF wr bJ bK bL bM bN bO bP bQ y2_10 z2_10∧PF wr bR bS bT bU bV bW bX bY y3_10 z3_10∧PF wr bZ cA cB cC cD cE cF cG y4_10 z4_10∧PF wr cH cI cJ cK cL cM cN cO y5_10 z5_10∧PF wr aG aH aI aJ aK aL aM aO y6_10 z6_10∧Hid ((0 < i→y0_10=P0∧z0_10=Q0∧C0=0)∧(1 < i→y1_10=P1∧z1_10=Q1∧C1=0)∧(2 < i→y2_10=P2∧z2_10=Q2∧C2=0)∧(3 < i→y3_10=P3∧z3_10=Q3∧C3=0)∧(4 < i→y4_10=P4∧z4_10=Q4∧C4=0)∧(5 < i→y5_10=P5∧z5_10=Q5∧C5=0)∧(6 < i→y6_10=P6∧z6_10=Q6∧C6=0))∧Below x1.heap.size x1 wr) (fun tv _=>7 - (intOf tv).toNat)
 case atStart=>exact ⟨0,false,none,0,0,false,none,0,0,false,none,0,0,false,none,0,0,false,none,0,0,false,none,0,0,false,none,0,0,false,none,0,0,false,none,0,0,false,none,0,0,false,none,0,0,false,none,0,0,false,none,0,0,false,none,0,0,0,1,0,1,0,1,0,1,0,1,0,1,0,1,by omega,rfl,iC.out,eG.out,eG.out,eG.out,eG.out,eG.out,eG.out,eG.out,hJ (⟨fun h=>absurd h (by decide),fun h=>absurd h (by decide),fun h=>absurd h (by decide),fun h=>absurd h (by decide),fun h=>absurd h (by decide),fun h=>absurd h (by decide),fun h=>absurd h (by decide)⟩),gC.out⟩
 case round =>
  obtain ⟨i10,aS,aT,aU,aV,aW,aX,aY,aZ,bA,bB,bC,bD,bE,bF,bG,bH,bJ,bK,bL,bM,bN,bO,bP,bQ,bR,bS,bT,bU,bV,bW,bX,bY,bZ,cA,cB,cC,cD,cE,cF,cG,cH,cI,cJ,cK,cL,cM,cN,cO,aG,aH,aI,aJ,aK,aL,aM,aO,y0_10,z0_10,y1_10,z1_10,y2_10,z2_10,y3_10,z3_10,y4_10,z4_10,y5_10,z5_10,y6_10,z6_10,hi,rfl,hz10_0,hz10_1,hz10_2,hz10_3,hz10_4,hz10_5,hz10_6,hz10_7,aB,hbel⟩:=hrel
  obtain ⟨wl10,rfl⟩:∃ W:World,W=wr:=⟨_,rfl⟩
  have aD:=hJ hbel
  have cQ:=hJ hz10_0
  have eH:=hJ hz10_1
  have eI:=hJ hz10_2
  have eJ:=hJ hz10_3
  have eK:=hJ hz10_4
  have eL:=hJ hz10_5
  have eM:=hJ hz10_6
  have eN:=hJ hz10_7
  clear hbel hz10_0 hz10_1 hz10_2 hz10_3 hz10_4 hz10_5 hz10_6 hz10_7
  have cR:=hJ (bt dT.out aD.out)
  have hcs:i10=0∨i10=1∨i10=2∨i10=3∨i10=4∨i10=5∨i10=6∨i10=7:=by omega
  clear hi
  rcases hcs with rfl | rfl | rfl | rfl | rfl | rfl | rfl | rfl
  ·(try rw [show ((0:Nat):Int)=0 from rfl])
   have hix:∀ wx,(Instr.index 200 (.agg #[.func (.func 139) #[] #[.pointer (some ⟨w.heap.size,0,none⟩),.pointer (some ⟨w.heap.size+3,0,none⟩),.pointer (some ⟨w.heap.size+2,0,none⟩)],.func (.func 140) #[] #[.pointer (some ⟨w.heap.size,0,none⟩),.pointer (some ⟨w.heap.size+4,0,none⟩),.pointer (some ⟨w.heap.size+2,0,none⟩)],.func (.func 141) #[] #[.pointer (some ⟨w.heap.size+1,0,none⟩),.pointer (some ⟨x1.heap.size,0,none⟩)],.func (.func 142) #[] #[.pointer (some ⟨w.heap.size,0,none⟩),.pointer (some ⟨w.heap.size+3,0,none⟩),.pointer (some ⟨w.heap.size+2,0,none⟩)],.func (.func 143) #[] #[.pointer (some ⟨w.heap.size,0,none⟩),.pointer (some ⟨w.heap.size+4,0,none⟩),.pointer (some ⟨w.heap.size+2,0,none⟩)],.func (.func 144) #[] #[.pointer (some ⟨w.heap.size+1,0,none⟩),.pointer (some ⟨x1.heap.size,0,none⟩)],.func (.func 145) #[] #[.pointer (some ⟨w.heap.size,0,none⟩),.pointer (some ⟨x1.heap.size,0,none⟩)]]) (.int .i64 0)).run Tryz.prog wx=.ok (.func (.func 139) #[] #[.pointer (some ⟨w.heap.size,0,none⟩),.pointer (some ⟨w.heap.size+3,0,none⟩),.pointer (some ⟨w.heap.size+2,0,none⟩)]) wx:=fun wx=>gx7_0 wx
   have dU:=hJ (BX.new eV.out aD.out)
   have fC:=hJ (BX.new gA.out aD.out)
   have eO:=hJ (BX.new eY.out aD.out)
   have iL:=hJ (PF.new hV.out cR.out)
   have fD:=hJ (PF.new fP.out cR.out)
   go_wp2_with fail
   clear hix
   refine (fda1_any p2 q2 p0 q0 s2 A2 n2 c2 t2 B2 m2 d2 s3 A3 n3 c3 t3 B3 m3 d3 s0 A0 n0 c0 t0 B0 m0 d0 s1 A1 n1 c1 t1 B1 m1 d1 w.heap.size (w.heap.size+3) (w.heap.size+2) wl10 dU.out fC.out eO.out iL.out fD.out fR.out eW.out).mono ?_
   rw [eP.out.1,eP.out.2.1,eP.out.2.2]
   rintro e w11 ⟨s11,A11,n11,c11,t11,B11,m11,d11,rfl,hr11,hb⟩
   have cW:=hJ hb
   have iM:=hJ hr11
   clear hb hr11
   by_cases hc:C0=0
   ·obtain rfl:=hc
    have aA:=hJ (BX.new cQ.out cW.out)
    have iN:=aA.out.frozen 0
    have iO:=aA.out.cell 0 rfl
    have iP:=aA.out.frozen 1
    have iQ:=aA.out.cell 1 rfl
    have iR:=aA.out.frozen 2
    have iS:=aA.out.cell 2 rfl
    have iT:=aA.out.frozen 3
    have iU:=aA.out.cell 3 rfl
    obtain ⟨x12,gD⟩:=nmz (World.setCell (World.setCell (World.setCell (World.setCell w11 ⟨x1.heap.size,0,none⟩ (.bool s11)) ⟨x1.heap.size,1,none⟩ (.slice A11 n11 c11)) ⟨x1.heap.size,2,none⟩ (.bool t11)) ⟨x1.heap.size,3,none⟩ (.slice B11 m11 d11))
    have dW:=hJ (show sto w11 x1.heap.size 0 [.bool s11,.slice A11 n11 c11,.bool t11,.slice B11 m11 d11]=x12 from gD)
    have iV:=hJ (show BX 198 x12 x1.heap.size #[.bool s11,.slice A11 n11 c11,.bool t11,.slice B11 m11 d11,.bool bA,.slice bB bC bD,.bool bE,.slice bF bG bH,.bool bJ,.slice bK bL bM,.bool bN,.slice bO bP bQ,.bool bR,.slice bS bT bU,.bool bV,.slice bW bX bY,.bool bZ,.slice cA cB cC,.bool cD,.slice cE cF cG,.bool cH,.slice cI cJ cK,.bool cL,.slice cM cN cO,.bool aG,.slice aH aI aJ,.bool aK,.slice aL aM aO] by rw [←dW.out]; exact BX.put aA.out _ _)
    have iW:=hJ (show PF x12 s11 A11 n11 c11 t11 B11 m11 d11 P0 Q0 by rw [←dW.out]; exact PF.sto iM.out aA.out rfl _ _)
    have cX:=hJ (PF.new eI.out cW.out)
    have cY:=hJ (show PF x12 bA bB bC bD bE bF bG bH y1_10 z1_10 by rw [←dW.out]; exact PF.sto cX.out aA.out rfl _ _)
    have cZ:=hJ (PF.new eJ.out cW.out)
    have dA:=hJ (show PF x12 bJ bK bL bM bN bO bP bQ y2_10 z2_10 by rw [←dW.out]; exact PF.sto cZ.out aA.out rfl _ _)
    have dB:=hJ (PF.new eK.out cW.out)
    have dD:=hJ (show PF x12 bR bS bT bU bV bW bX bY y3_10 z3_10 by rw [←dW.out]; exact PF.sto dB.out aA.out rfl _ _)
    have dE:=hJ (PF.new eL.out cW.out)
    have dG:=hJ (show PF x12 bZ cA cB cC cD cE cF cG y4_10 z4_10 by rw [←dW.out]; exact PF.sto dE.out aA.out rfl _ _)
    have dH:=hJ (PF.new eM.out cW.out)
    have dI:=hJ (show PF x12 cH cI cJ cK cL cM cN cO y5_10 z5_10 by rw [←dW.out]; exact PF.sto dH.out aA.out rfl _ _)
    have cS:=hJ (PF.new eN.out cW.out)
    have dJ:=hJ (show PF x12 aG aH aI aJ aK aL aM aO y6_10 z6_10 by rw [←dW.out]; exact PF.sto cS.out aA.out rfl _ _)
    have aR:=hJ (show Below x1.heap.size x1 x12 by rw [←dW.out]; exact below_sto (bt aD.out cW.out) cP.out _ _)
    go_wp2_with fail
    clear iN iO iP iQ iR iS iT iU gD
    go_roundw
    case rel=>exact ⟨0+1,s11,A11,n11,c11,t11,B11,m11,d11,bA,bB,bC,bD,bE,bF,bG,bH,bJ,bK,bL,bM,bN,bO,bP,bQ,bR,bS,bT,bU,bV,bW,bX,bY,bZ,cA,cB,cC,cD,cE,cF,cG,cH,cI,cJ,cK,cL,cM,cN,cO,aG,aH,aI,aJ,aK,aL,aM,aO,P0,Q0,y1_10,z1_10,y2_10,z2_10,y3_10,z3_10,y4_10,z4_10,y5_10,z5_10,y6_10,z6_10,by omega,by go_num,iV.out,iW.out,cY.out,dA.out,dD.out,dG.out,dI.out,dJ.out,hJ (⟨fun _=>⟨rfl,rfl,by first | rfl | trivial⟩,fun h=>absurd h (by decide),fun h=>absurd h (by decide),fun h=>absurd h (by decide),fun h=>absurd h (by decide),fun h=>absurd h (by decide),fun h=>absurd h (by decide)⟩),aR.out⟩
    case measure=>simp [intOf] <;> omega
   have hcz:(C0 == 0)=false:=by simp [hc]
   have HV:=hJ (show feV [C0,C1,C2,C3,C4,C5,C6]=C0 from feV_n hc)
   have HN:=hJ hc
   clear hc
   have aA:=hJ (BX.new cQ.out cW.out)
   have iX:=aA.out.frozen 0
   have iY:=aA.out.cell 0 rfl
   have iZ:=aA.out.frozen 1
   have jA:=aA.out.cell 1 rfl
   have jB:=aA.out.frozen 2
   have jC:=aA.out.cell 2 rfl
   have jD:=aA.out.frozen 3
   have jE:=aA.out.cell 3 rfl
   obtain ⟨x13,gE⟩:=nmz (World.setCell (World.setCell (World.setCell (World.setCell w11 ⟨x1.heap.size,0,none⟩ (.bool s11)) ⟨x1.heap.size,1,none⟩ (.slice A11 n11 c11)) ⟨x1.heap.size,2,none⟩ (.bool t11)) ⟨x1.heap.size,3,none⟩ (.slice B11 m11 d11))
   have gF:=hJ (show sto w11 x1.heap.size 0 [.bool s11,.slice A11 n11 c11,.bool t11,.slice B11 m11 d11]=x13 from gE)
   obtain ⟨x14,fE⟩:=nmz (x13.alloc (.cells #[.bool false,.slice none 0 0,.bool false,.slice none 0 0] 35))
   have gG:=hJ (show Below x13.heap.size x13 x14 by rw [←fE]; exact ((Below.refl _ _).alloc (Nat.le_refl _) _))
   have jF:=hJ (show BX 35 x14 x13.heap.size #[.bool false,.slice none 0 0,.bool false,.slice none 0 0] by rw [←fE]; exact (BX.at rfl))
   obtain ⟨jG,jH,jI,jJ⟩:=jF.out.c4 0 1 2 3 rfl rfl rfl rfl
   have aR:=hJ (show Below x1.heap.size x1 x13 by rw [←gF.out]; exact below_sto (bt aD.out cW.out) cP.out _ _)
   have cT:=hJ (bt aR.out gG.out)
   have aC:=hJ (BX.new eE.out cT.out)
   have jK:=aC.out.frozen 0
   have jL:=aC.out.cell 0 rfl
   have jM:=aC.out.frozen 1
   have jN:=aC.out.cell 1 rfl
   have jO:=aC.out.frozen 2
   have jP:=aC.out.cell 2 rfl
   have jQ:=aC.out.frozen 3
   have jR:=aC.out.cell 3 rfl
   obtain ⟨x19,gH⟩:=nmz (World.setCell (World.setCell (World.setCell (World.setCell x14 ⟨w.heap.size+5,0,none⟩ (.bool false)) ⟨w.heap.size+5,1,none⟩ (.slice none 0 0)) ⟨w.heap.size+5,2,none⟩ (.bool false)) ⟨w.heap.size+5,3,none⟩ (.slice none 0 0))
   have gI:=hJ (show sto x14 (w.heap.size+5) 0 [.bool false,.slice none 0 0,.bool false,.slice none 0 0]=x19 from gH)
   have jS:=hJ (show BX 35 x19 (w.heap.size+5) #[.bool false,.slice none 0 0,.bool false,.slice none 0 0] by rw [←gI.out]; exact BX.put aC.out _ _)
   have cU:=hJ (show Below w.heap.size w x13 by rw [←gF.out]; exact below_sto (bt cR.out cW.out) (Nat.le_trans (dT.out).size cP.out) _ _)
   have cV:=hJ (show Below w.heap.size w x19 by rw [←gI.out]; exact below_sto (bt cU.out gG.out) eF.out _ _)
   go_wp2
   clear iX iY iZ jA jB jC jD jE gE fE jG jH jI jJ jK jL jM jN jO jP jQ jR gH
   exact bodyPost_ret (results_cell1 rfl _ _ _ _ _ _ _ rfl jS.out Tryz.underlying35 rfl F_size) rfl (by rw [HV.out,feP,feQ,if_neg HN.out,if_neg HN.out]; exact ⟨false,none,0,0,false,none,0,0,rfl,PF.zero _,cV.out⟩)
  ·(try rw [show ((1:Nat):Int)=1 from rfl])
   obtain rfl:P0=y0_10:=(aB.out.1 (by decide)).1.symm
   obtain rfl:Q0=z0_10:=(aB.out.1 (by decide)).2.1.symm
   obtain rfl:C0=0:=(aB.out.1 (by decide)).2.2
   have hix:∀ wx,(Instr.index 200 (.agg #[.func (.func 139) #[] #[.pointer (some ⟨w.heap.size,0,none⟩),.pointer (some ⟨w.heap.size+3,0,none⟩),.pointer (some ⟨w.heap.size+2,0,none⟩)],.func (.func 140) #[] #[.pointer (some ⟨w.heap.size,0,none⟩),.pointer (some ⟨w.heap.size+4,0,none⟩),.pointer (some ⟨w.heap.size+2,0,none⟩)],.func (.func 141) #[] #[.pointer (some ⟨w.heap.size+1,0,none⟩),.pointer (some ⟨x1.heap.size,0,none⟩)],.func (.func 142) #[] #[.pointer (some ⟨w.heap.size,0,none⟩),.pointer (some ⟨w.heap.size+3,0,none⟩),.pointer (some ⟨w.heap.size+2,0,none⟩)],.func (.func 143) #[] #[.pointer (some ⟨w.heap.size,0,none⟩),.pointer (some ⟨w.heap.size+4,0,none⟩),.pointer (some ⟨w.heap.size+2,0,none⟩)],.func (.func 144) #[] #[.pointer (some ⟨w.heap.size+1,0,none⟩),.pointer (some ⟨x1.heap.size,0,none⟩)],.func (.func 145) #[] #[.pointer (some ⟨w.heap.size,0,none⟩),.pointer (some ⟨x1.heap.size,0,none⟩)]]) (.int .i64 1)).run Tryz.prog wx=.ok (.func (.func 140) #[] #[.pointer (some ⟨w.heap.size,0,none⟩),.pointer (some ⟨w.heap.size+4,0,none⟩),.pointer (some ⟨w.heap.size+2,0,none⟩)]) wx:=fun wx=>gx7_1 wx
   have dU:=hJ (BX.new eV.out aD.out)
   have fF:=hJ (BX.new gB.out aD.out)
   have eO:=hJ (BX.new eY.out aD.out)
   have jT:=hJ (PF.new hY.out cR.out)
   have fG:=hJ (PF.new fQ.out cR.out)
   go_wp2_with fail
   clear hix
   refine (fda2_any p5 q5 p1 q1 s4 A4 n4 c4 t4 B4 m4 d4 s5 A5 n5 c5 t5 B5 m5 d5 s0 A0 n0 c0 t0 B0 m0 d0 s1 A1 n1 c1 t1 B1 m1 d1 w.heap.size (w.heap.size+4) (w.heap.size+2) wl10 dU.out fF.out eO.out jT.out fG.out fU.out eX.out).mono ?_
   rw [eQ.out.1,eQ.out.2.1,eQ.out.2.2]
   rintro e w20 ⟨s12,A12,n12,c12,t12,B12,m12,d12,rfl,hr12,hb⟩
   have dK:=hJ hb
   have jU:=hJ hr12
   clear hb hr12
   by_cases hc:C1=0
   ·obtain rfl:=hc
    have aA:=hJ (BX.new cQ.out dK.out)
    have jV:=aA.out.frozen 4
    have jW:=aA.out.cell 4 rfl
    have jX:=aA.out.frozen 5
    have jY:=aA.out.cell 5 rfl
    have jZ:=aA.out.frozen 6
    have kA:=aA.out.cell 6 rfl
    have kB:=aA.out.frozen 7
    have kC:=aA.out.cell 7 rfl
    obtain ⟨x21,gJ⟩:=nmz (World.setCell (World.setCell (World.setCell (World.setCell w20 ⟨x1.heap.size,4,none⟩ (.bool s12)) ⟨x1.heap.size,5,none⟩ (.slice A12 n12 c12)) ⟨x1.heap.size,6,none⟩ (.bool t12)) ⟨x1.heap.size,7,none⟩ (.slice B12 m12 d12))
    have dX:=hJ (show sto w20 x1.heap.size 4 [.bool s12,.slice A12 n12 c12,.bool t12,.slice B12 m12 d12]=x21 from gJ)
    have kD:=hJ (show BX 198 x21 x1.heap.size #[.bool aS,.slice aT aU aV,.bool aW,.slice aX aY aZ,.bool s12,.slice A12 n12 c12,.bool t12,.slice B12 m12 d12,.bool bJ,.slice bK bL bM,.bool bN,.slice bO bP bQ,.bool bR,.slice bS bT bU,.bool bV,.slice bW bX bY,.bool bZ,.slice cA cB cC,.bool cD,.slice cE cF cG,.bool cH,.slice cI cJ cK,.bool cL,.slice cM cN cO,.bool aG,.slice aH aI aJ,.bool aK,.slice aL aM aO] by rw [←dX.out]; exact BX.put aA.out _ _)
    have dL:=hJ (PF.new eH.out dK.out)
    have dM:=hJ (show PF x21 aS aT aU aV aW aX aY aZ P0 Q0 by rw [←dX.out]; exact PF.sto dL.out aA.out rfl _ _)
    have kE:=hJ (show PF x21 s12 A12 n12 c12 t12 B12 m12 d12 P1 Q1 by rw [←dX.out]; exact PF.sto jU.out aA.out rfl _ _)
    have cZ:=hJ (PF.new eJ.out dK.out)
    have dA:=hJ (show PF x21 bJ bK bL bM bN bO bP bQ y2_10 z2_10 by rw [←dX.out]; exact PF.sto cZ.out aA.out rfl _ _)
    have dB:=hJ (PF.new eK.out dK.out)
    have dD:=hJ (show PF x21 bR bS bT bU bV bW bX bY y3_10 z3_10 by rw [←dX.out]; exact PF.sto dB.out aA.out rfl _ _)
    have dE:=hJ (PF.new eL.out dK.out)
    have dG:=hJ (show PF x21 bZ cA cB cC cD cE cF cG y4_10 z4_10 by rw [←dX.out]; exact PF.sto dE.out aA.out rfl _ _)
    have dH:=hJ (PF.new eM.out dK.out)
    have dI:=hJ (show PF x21 cH cI cJ cK cL cM cN cO y5_10 z5_10 by rw [←dX.out]; exact PF.sto dH.out aA.out rfl _ _)
    have cS:=hJ (PF.new eN.out dK.out)
    have dJ:=hJ (show PF x21 aG aH aI aJ aK aL aM aO y6_10 z6_10 by rw [←dX.out]; exact PF.sto cS.out aA.out rfl _ _)
    have aR:=hJ (show Below x1.heap.size x1 x21 by rw [←dX.out]; exact below_sto (bt aD.out dK.out) cP.out _ _)
    go_wp2_with fail
    clear jV jW jX jY jZ kA kB kC gJ
    go_roundw
    case rel=>exact ⟨1+1,aS,aT,aU,aV,aW,aX,aY,aZ,s12,A12,n12,c12,t12,B12,m12,d12,bJ,bK,bL,bM,bN,bO,bP,bQ,bR,bS,bT,bU,bV,bW,bX,bY,bZ,cA,cB,cC,cD,cE,cF,cG,cH,cI,cJ,cK,cL,cM,cN,cO,aG,aH,aI,aJ,aK,aL,aM,aO,P0,Q0,P1,Q1,y2_10,z2_10,y3_10,z3_10,y4_10,z4_10,y5_10,z5_10,y6_10,z6_10,by omega,by go_num,kD.out,dM.out,kE.out,dA.out,dD.out,dG.out,dI.out,dJ.out,hJ (⟨fun _=>⟨rfl,rfl,by first | rfl | trivial⟩,fun _=>⟨rfl,rfl,by first | rfl | trivial⟩,fun h=>absurd h (by decide),fun h=>absurd h (by decide),fun h=>absurd h (by decide),fun h=>absurd h (by decide),fun h=>absurd h (by decide)⟩),aR.out⟩
    case measure=>simp [intOf] <;> omega
   have hcz:(C1 == 0)=false:=by simp [hc]
   have HV:=hJ (show feV [0,C1,C2,C3,C4,C5,C6]=C1 from feV_n hc)
   have HN:=hJ hc
   clear hc
   have aA:=hJ (BX.new cQ.out dK.out)
   have kF:=aA.out.frozen 4
   have kG:=aA.out.cell 4 rfl
   have kH:=aA.out.frozen 5
   have kI:=aA.out.cell 5 rfl
   have kJ:=aA.out.frozen 6
   have kK:=aA.out.cell 6 rfl
   have kL:=aA.out.frozen 7
   have kM:=aA.out.cell 7 rfl
   obtain ⟨x22,gK⟩:=nmz (World.setCell (World.setCell (World.setCell (World.setCell w20 ⟨x1.heap.size,4,none⟩ (.bool s12)) ⟨x1.heap.size,5,none⟩ (.slice A12 n12 c12)) ⟨x1.heap.size,6,none⟩ (.bool t12)) ⟨x1.heap.size,7,none⟩ (.slice B12 m12 d12))
   have gL:=hJ (show sto w20 x1.heap.size 4 [.bool s12,.slice A12 n12 c12,.bool t12,.slice B12 m12 d12]=x22 from gK)
   obtain ⟨x23,fH⟩:=nmz (x22.alloc (.cells #[.bool false,.slice none 0 0,.bool false,.slice none 0 0] 35))
   have gM:=hJ (show Below x22.heap.size x22 x23 by rw [←fH]; exact ((Below.refl _ _).alloc (Nat.le_refl _) _))
   have kN:=hJ (show BX 35 x23 x22.heap.size #[.bool false,.slice none 0 0,.bool false,.slice none 0 0] by rw [←fH]; exact (BX.at rfl))
   obtain ⟨kO,kP,kQ,kR⟩:=kN.out.c4 0 1 2 3 rfl rfl rfl rfl
   have aR:=hJ (show Below x1.heap.size x1 x22 by rw [←gL.out]; exact below_sto (bt aD.out dK.out) cP.out _ _)
   have cT:=hJ (bt aR.out gM.out)
   have aC:=hJ (BX.new eE.out cT.out)
   have kS:=aC.out.frozen 0
   have kT:=aC.out.cell 0 rfl
   have kU:=aC.out.frozen 1
   have kV:=aC.out.cell 1 rfl
   have kW:=aC.out.frozen 2
   have kX:=aC.out.cell 2 rfl
   have kY:=aC.out.frozen 3
   have kZ:=aC.out.cell 3 rfl
   obtain ⟨x28,gN⟩:=nmz (World.setCell (World.setCell (World.setCell (World.setCell x23 ⟨w.heap.size+5,0,none⟩ (.bool false)) ⟨w.heap.size+5,1,none⟩ (.slice none 0 0)) ⟨w.heap.size+5,2,none⟩ (.bool false)) ⟨w.heap.size+5,3,none⟩ (.slice none 0 0))
   have gO:=hJ (show sto x23 (w.heap.size+5) 0 [.bool false,.slice none 0 0,.bool false,.slice none 0 0]=x28 from gN)
   have lA:=hJ (show BX 35 x28 (w.heap.size+5) #[.bool false,.slice none 0 0,.bool false,.slice none 0 0] by rw [←gO.out]; exact BX.put aC.out _ _)
   have cU:=hJ (show Below w.heap.size w x22 by rw [←gL.out]; exact below_sto (bt cR.out dK.out) (Nat.le_trans (dT.out).size cP.out) _ _)
   have cV:=hJ (show Below w.heap.size w x28 by rw [←gO.out]; exact below_sto (bt cU.out gM.out) eF.out _ _)
   go_wp2
   clear kF kG kH kI kJ kK kL kM gK fH kO kP kQ kR kS kT kU kV kW kX kY kZ gN
   exact bodyPost_ret (results_cell1 rfl _ _ _ _ _ _ _ rfl lA.out Tryz.underlying35 rfl F_size) rfl (by rw [HV.out,feP,feQ,if_neg HN.out,if_neg HN.out]; exact ⟨false,none,0,0,false,none,0,0,rfl,PF.zero _,cV.out⟩)
  ·(try rw [show ((2:Nat):Int)=2 from rfl])
   obtain rfl:P0=y0_10:=(aB.out.1 (by decide)).1.symm
   obtain rfl:Q0=z0_10:=(aB.out.1 (by decide)).2.1.symm
   obtain rfl:C0=0:=(aB.out.1 (by decide)).2.2
   obtain rfl:P1=y1_10:=(aB.out.2.1 (by decide)).1.symm
   obtain rfl:Q1=z1_10:=(aB.out.2.1 (by decide)).2.1.symm
   obtain rfl:C1=0:=(aB.out.2.1 (by decide)).2.2
   have hix:∀ wx,(Instr.index 200 (.agg #[.func (.func 139) #[] #[.pointer (some ⟨w.heap.size,0,none⟩),.pointer (some ⟨w.heap.size+3,0,none⟩),.pointer (some ⟨w.heap.size+2,0,none⟩)],.func (.func 140) #[] #[.pointer (some ⟨w.heap.size,0,none⟩),.pointer (some ⟨w.heap.size+4,0,none⟩),.pointer (some ⟨w.heap.size+2,0,none⟩)],.func (.func 141) #[] #[.pointer (some ⟨w.heap.size+1,0,none⟩),.pointer (some ⟨x1.heap.size,0,none⟩)],.func (.func 142) #[] #[.pointer (some ⟨w.heap.size,0,none⟩),.pointer (some ⟨w.heap.size+3,0,none⟩),.pointer (some ⟨w.heap.size+2,0,none⟩)],.func (.func 143) #[] #[.pointer (some ⟨w.heap.size,0,none⟩),.pointer (some ⟨w.heap.size+4,0,none⟩),.pointer (some ⟨w.heap.size+2,0,none⟩)],.func (.func 144) #[] #[.pointer (some ⟨w.heap.size+1,0,none⟩),.pointer (some ⟨x1.heap.size,0,none⟩)],.func (.func 145) #[] #[.pointer (some ⟨w.heap.size,0,none⟩),.pointer (some ⟨x1.heap.size,0,none⟩)]]) (.int .i64 2)).run Tryz.prog wx=.ok (.func (.func 141) #[] #[.pointer (some ⟨w.heap.size+1,0,none⟩),.pointer (some ⟨x1.heap.size,0,none⟩)]) wx:=fun wx=>gx7_2 wx
   have fI:=hJ (BX.new fZ.out aD.out)
   go_wp2_with fail
   clear hix
   refine (fda3_any P0 Q0 P1 Q1 aS aT aU aV aW aX aY aZ bA bB bC bD bE bF bG bH bJ bK bL bM bN bO bP bQ bR bS bT bU bV bW bX bY bZ cA cB cC cD cE cF cG cH cI cJ cK cL cM cN cO aG aH aI aJ aK aL aM aO (w.heap.size+1) x1.heap.size wl10 fI.out cQ.out eH.out eI.out fV.out fW.out).mono ?_
   rw [eR.out.1,eR.out.2.1,eR.out.2.2]
   rintro e w29 ⟨s13,A13,n13,c13,t13,B13,m13,d13,rfl,hr13,hb⟩
   have dN:=hJ hb
   have lB:=hJ hr13
   clear hb hr13
   by_cases hc:C2=0
   ·obtain rfl:=hc
    have aA:=hJ (BX.new cQ.out dN.out)
    have lC:=aA.out.frozen 8
    have lD:=aA.out.cell 8 rfl
    have lE:=aA.out.frozen 9
    have lF:=aA.out.cell 9 rfl
    have lG:=aA.out.frozen 10
    have lH:=aA.out.cell 10 rfl
    have lI:=aA.out.frozen 11
    have lJ:=aA.out.cell 11 rfl
    obtain ⟨x30,gP⟩:=nmz (World.setCell (World.setCell (World.setCell (World.setCell w29 ⟨x1.heap.size,8,none⟩ (.bool s13)) ⟨x1.heap.size,9,none⟩ (.slice A13 n13 c13)) ⟨x1.heap.size,10,none⟩ (.bool t13)) ⟨x1.heap.size,11,none⟩ (.slice B13 m13 d13))
    have dY:=hJ (show sto w29 x1.heap.size 8 [.bool s13,.slice A13 n13 c13,.bool t13,.slice B13 m13 d13]=x30 from gP)
    have lK:=hJ (show BX 198 x30 x1.heap.size #[.bool aS,.slice aT aU aV,.bool aW,.slice aX aY aZ,.bool bA,.slice bB bC bD,.bool bE,.slice bF bG bH,.bool s13,.slice A13 n13 c13,.bool t13,.slice B13 m13 d13,.bool bR,.slice bS bT bU,.bool bV,.slice bW bX bY,.bool bZ,.slice cA cB cC,.bool cD,.slice cE cF cG,.bool cH,.slice cI cJ cK,.bool cL,.slice cM cN cO,.bool aG,.slice aH aI aJ,.bool aK,.slice aL aM aO] by rw [←dY.out]; exact BX.put aA.out _ _)
    have dL:=hJ (PF.new eH.out dN.out)
    have dM:=hJ (show PF x30 aS aT aU aV aW aX aY aZ P0 Q0 by rw [←dY.out]; exact PF.sto dL.out aA.out rfl _ _)
    have cX:=hJ (PF.new eI.out dN.out)
    have cY:=hJ (show PF x30 bA bB bC bD bE bF bG bH P1 Q1 by rw [←dY.out]; exact PF.sto cX.out aA.out rfl _ _)
    have lL:=hJ (show PF x30 s13 A13 n13 c13 t13 B13 m13 d13 P2 Q2 by rw [←dY.out]; exact PF.sto lB.out aA.out rfl _ _)
    have dB:=hJ (PF.new eK.out dN.out)
    have dD:=hJ (show PF x30 bR bS bT bU bV bW bX bY y3_10 z3_10 by rw [←dY.out]; exact PF.sto dB.out aA.out rfl _ _)
    have dE:=hJ (PF.new eL.out dN.out)
    have dG:=hJ (show PF x30 bZ cA cB cC cD cE cF cG y4_10 z4_10 by rw [←dY.out]; exact PF.sto dE.out aA.out rfl _ _)
    have dH:=hJ (PF.new eM.out dN.out)
    have dI:=hJ (show PF x30 cH cI cJ cK cL cM cN cO y5_10 z5_10 by rw [←dY.out]; exact PF.sto dH.out aA.out rfl _ _)
    have cS:=hJ (PF.new eN.out dN.out)
    have dJ:=hJ (show PF x30 aG aH aI aJ aK aL aM aO y6_10 z6_10 by rw [←dY.out]; exact PF.sto cS.out aA.out rfl _ _)
    have aR:=hJ (show Below x1.heap.size x1 x30 by rw [←dY.out]; exact below_sto (bt aD.out dN.out) cP.out _ _)
    go_wp2_with fail
    clear lC lD lE lF lG lH lI lJ gP
    go_roundw
    case rel=>exact ⟨2+1,aS,aT,aU,aV,aW,aX,aY,aZ,bA,bB,bC,bD,bE,bF,bG,bH,s13,A13,n13,c13,t13,B13,m13,d13,bR,bS,bT,bU,bV,bW,bX,bY,bZ,cA,cB,cC,cD,cE,cF,cG,cH,cI,cJ,cK,cL,cM,cN,cO,aG,aH,aI,aJ,aK,aL,aM,aO,P0,Q0,P1,Q1,P2,Q2,y3_10,z3_10,y4_10,z4_10,y5_10,z5_10,y6_10,z6_10,by omega,by go_num,lK.out,dM.out,cY.out,lL.out,dD.out,dG.out,dI.out,dJ.out,hJ (⟨fun _=>⟨rfl,rfl,by first | rfl | trivial⟩,fun _=>⟨rfl,rfl,by first | rfl | trivial⟩,fun _=>⟨rfl,rfl,by first | rfl | trivial⟩,fun h=>absurd h (by decide),fun h=>absurd h (by decide),fun h=>absurd h (by decide),fun h=>absurd h (by decide)⟩),aR.out⟩
    case measure=>simp [intOf] <;> omega
   have hcz:(C2 == 0)=false:=by simp [hc]
   have HV:=hJ (show feV [0,0,C2,C3,C4,C5,C6]=C2 from feV_n hc)
   have HN:=hJ hc
   clear hc
   have aA:=hJ (BX.new cQ.out dN.out)
   have lM:=aA.out.frozen 8
   have lN:=aA.out.cell 8 rfl
   have lO:=aA.out.frozen 9
   have lP:=aA.out.cell 9 rfl
   have lQ:=aA.out.frozen 10
   have lR:=aA.out.cell 10 rfl
   have lS:=aA.out.frozen 11
   have lT:=aA.out.cell 11 rfl
   obtain ⟨x31,gQ⟩:=nmz (World.setCell (World.setCell (World.setCell (World.setCell w29 ⟨x1.heap.size,8,none⟩ (.bool s13)) ⟨x1.heap.size,9,none⟩ (.slice A13 n13 c13)) ⟨x1.heap.size,10,none⟩ (.bool t13)) ⟨x1.heap.size,11,none⟩ (.slice B13 m13 d13))
   have gR:=hJ (show sto w29 x1.heap.size 8 [.bool s13,.slice A13 n13 c13,.bool t13,.slice B13 m13 d13]=x31 from gQ)
   obtain ⟨x32,fJ⟩:=nmz (x31.alloc (.cells #[.bool false,.slice none 0 0,.bool false,.slice none 0 0] 35))
   have gS:=hJ (show Below x31.heap.size x31 x32 by rw [←fJ]; exact ((Below.refl _ _).alloc (Nat.le_refl _) _))
   have lU:=hJ (show BX 35 x32 x31.heap.size #[.bool false,.slice none 0 0,.bool false,.slice none 0 0] by rw [←fJ]; exact (BX.at rfl))
   obtain ⟨lV,lW,lX,lY⟩:=lU.out.c4 0 1 2 3 rfl rfl rfl rfl
   have aR:=hJ (show Below x1.heap.size x1 x31 by rw [←gR.out]; exact below_sto (bt aD.out dN.out) cP.out _ _)
   have cT:=hJ (bt aR.out gS.out)
   have aC:=hJ (BX.new eE.out cT.out)
   have lZ:=aC.out.frozen 0
   have mA:=aC.out.cell 0 rfl
   have mB:=aC.out.frozen 1
   have mC:=aC.out.cell 1 rfl
   have mD:=aC.out.frozen 2
   have mE:=aC.out.cell 2 rfl
   have mF:=aC.out.frozen 3
   have mG:=aC.out.cell 3 rfl
   obtain ⟨x37,gT⟩:=nmz (World.setCell (World.setCell (World.setCell (World.setCell x32 ⟨w.heap.size+5,0,none⟩ (.bool false)) ⟨w.heap.size+5,1,none⟩ (.slice none 0 0)) ⟨w.heap.size+5,2,none⟩ (.bool false)) ⟨w.heap.size+5,3,none⟩ (.slice none 0 0))
   have gU:=hJ (show sto x32 (w.heap.size+5) 0 [.bool false,.slice none 0 0,.bool false,.slice none 0 0]=x37 from gT)
   have mH:=hJ (show BX 35 x37 (w.heap.size+5) #[.bool false,.slice none 0 0,.bool false,.slice none 0 0] by rw [←gU.out]; exact BX.put aC.out _ _)
   have cU:=hJ (show Below w.heap.size w x31 by rw [←gR.out]; exact below_sto (bt cR.out dN.out) (Nat.le_trans (dT.out).size cP.out) _ _)
   have cV:=hJ (show Below w.heap.size w x37 by rw [←gU.out]; exact below_sto (bt cU.out gS.out) eF.out _ _)
   go_wp2
   clear lM lN lO lP lQ lR lS lT gQ fJ lV lW lX lY lZ mA mB mC mD mE mF mG gT
   exact bodyPost_ret (results_cell1 rfl _ _ _ _ _ _ _ rfl mH.out Tryz.underlying35 rfl F_size) rfl (by rw [HV.out,feP,feQ,if_neg HN.out,if_neg HN.out]; exact ⟨false,none,0,0,false,none,0,0,rfl,PF.zero _,cV.out⟩)
  ·(try rw [show ((3:Nat):Int)=3 from rfl])
   obtain rfl:P0=y0_10:=(aB.out.1 (by decide)).1.symm
   obtain rfl:Q0=z0_10:=(aB.out.1 (by decide)).2.1.symm
   obtain rfl:C0=0:=(aB.out.1 (by decide)).2.2
   obtain rfl:P1=y1_10:=(aB.out.2.1 (by decide)).1.symm
   obtain rfl:Q1=z1_10:=(aB.out.2.1 (by decide)).2.1.symm
   obtain rfl:C1=0:=(aB.out.2.1 (by decide)).2.2
   obtain rfl:P2=y2_10:=(aB.out.2.2.1 (by decide)).1.symm
   obtain rfl:Q2=z2_10:=(aB.out.2.2.1 (by decide)).2.1.symm
   obtain rfl:C2=0:=(aB.out.2.2.1 (by decide)).2.2
   have hix:∀ wx,(Instr.index 200 (.agg #[.func (.func 139) #[] #[.pointer (some ⟨w.heap.size,0,none⟩),.pointer (some ⟨w.heap.size+3,0,none⟩),.pointer (some ⟨w.heap.size+2,0,none⟩)],.func (.func 140) #[] #[.pointer (some ⟨w.heap.size,0,none⟩),.pointer (some ⟨w.heap.size+4,0,none⟩),.pointer (some ⟨w.heap.size+2,0,none⟩)],.func (.func 141) #[] #[.pointer (some ⟨w.heap.size+1,0,none⟩),.pointer (some ⟨x1.heap.size,0,none⟩)],.func (.func 142) #[] #[.pointer (some ⟨w.heap.size,0,none⟩),.pointer (some ⟨w.heap.size+3,0,none⟩),.pointer (some ⟨w.heap.size+2,0,none⟩)],.func (.func 143) #[] #[.pointer (some ⟨w.heap.size,0,none⟩),.pointer (some ⟨w.heap.size+4,0,none⟩),.pointer (some ⟨w.heap.size+2,0,none⟩)],.func (.func 144) #[] #[.pointer (some ⟨w.heap.size+1,0,none⟩),.pointer (some ⟨x1.heap.size,0,none⟩)],.func (.func 145) #[] #[.pointer (some ⟨w.heap.size,0,none⟩),.pointer (some ⟨x1.heap.size,0,none⟩)]]) (.int .i64 3)).run Tryz.prog wx=.ok (.func (.func 142) #[] #[.pointer (some ⟨w.heap.size,0,none⟩),.pointer (some ⟨w.heap.size+3,0,none⟩),.pointer (some ⟨w.heap.size+2,0,none⟩)]) wx:=fun wx=>gx7_3 wx
   have dU:=hJ (BX.new eV.out aD.out)
   have fC:=hJ (BX.new gA.out aD.out)
   have eO:=hJ (BX.new eY.out aD.out)
   have mI:=hJ (PF.new hW.out cR.out)
   have fG:=hJ (PF.new fQ.out cR.out)
   go_wp2_with fail
   clear hix
   refine (fda4_any p3 q3 p1 q1 s2 A2 n2 c2 t2 B2 m2 d2 s3 A3 n3 c3 t3 B3 m3 d3 s0 A0 n0 c0 t0 B0 m0 d0 s1 A1 n1 c1 t1 B1 m1 d1 w.heap.size (w.heap.size+3) (w.heap.size+2) wl10 dU.out fC.out eO.out mI.out fG.out fS.out eX.out).mono ?_
   rw [eS.out.1,eS.out.2.1,eS.out.2.2]
   rintro e w38 ⟨s14,A14,n14,c14,t14,B14,m14,d14,rfl,hr14,hb⟩
   have dO:=hJ hb
   have mJ:=hJ hr14
   clear hb hr14
   by_cases hc:C3=0
   ·obtain rfl:=hc
    have aA:=hJ (BX.new cQ.out dO.out)
    have mK:=aA.out.frozen 12
    have mL:=aA.out.cell 12 rfl
    have mM:=aA.out.frozen 13
    have mN:=aA.out.cell 13 rfl
    have mO:=aA.out.frozen 14
    have mP:=aA.out.cell 14 rfl
    have mQ:=aA.out.frozen 15
    have mR:=aA.out.cell 15 rfl
    obtain ⟨x39,gV⟩:=nmz (World.setCell (World.setCell (World.setCell (World.setCell w38 ⟨x1.heap.size,12,none⟩ (.bool s14)) ⟨x1.heap.size,13,none⟩ (.slice A14 n14 c14)) ⟨x1.heap.size,14,none⟩ (.bool t14)) ⟨x1.heap.size,15,none⟩ (.slice B14 m14 d14))
    have dZ:=hJ (show sto w38 x1.heap.size 12 [.bool s14,.slice A14 n14 c14,.bool t14,.slice B14 m14 d14]=x39 from gV)
    have mS:=hJ (show BX 198 x39 x1.heap.size #[.bool aS,.slice aT aU aV,.bool aW,.slice aX aY aZ,.bool bA,.slice bB bC bD,.bool bE,.slice bF bG bH,.bool bJ,.slice bK bL bM,.bool bN,.slice bO bP bQ,.bool s14,.slice A14 n14 c14,.bool t14,.slice B14 m14 d14,.bool bZ,.slice cA cB cC,.bool cD,.slice cE cF cG,.bool cH,.slice cI cJ cK,.bool cL,.slice cM cN cO,.bool aG,.slice aH aI aJ,.bool aK,.slice aL aM aO] by rw [←dZ.out]; exact BX.put aA.out _ _)
    have dL:=hJ (PF.new eH.out dO.out)
    have dM:=hJ (show PF x39 aS aT aU aV aW aX aY aZ P0 Q0 by rw [←dZ.out]; exact PF.sto dL.out aA.out rfl _ _)
    have cX:=hJ (PF.new eI.out dO.out)
    have cY:=hJ (show PF x39 bA bB bC bD bE bF bG bH P1 Q1 by rw [←dZ.out]; exact PF.sto cX.out aA.out rfl _ _)
    have cZ:=hJ (PF.new eJ.out dO.out)
    have dA:=hJ (show PF x39 bJ bK bL bM bN bO bP bQ P2 Q2 by rw [←dZ.out]; exact PF.sto cZ.out aA.out rfl _ _)
    have mT:=hJ (show PF x39 s14 A14 n14 c14 t14 B14 m14 d14 P3 Q3 by rw [←dZ.out]; exact PF.sto mJ.out aA.out rfl _ _)
    have dE:=hJ (PF.new eL.out dO.out)
    have dG:=hJ (show PF x39 bZ cA cB cC cD cE cF cG y4_10 z4_10 by rw [←dZ.out]; exact PF.sto dE.out aA.out rfl _ _)
    have dH:=hJ (PF.new eM.out dO.out)
    have dI:=hJ (show PF x39 cH cI cJ cK cL cM cN cO y5_10 z5_10 by rw [←dZ.out]; exact PF.sto dH.out aA.out rfl _ _)
    have cS:=hJ (PF.new eN.out dO.out)
    have dJ:=hJ (show PF x39 aG aH aI aJ aK aL aM aO y6_10 z6_10 by rw [←dZ.out]; exact PF.sto cS.out aA.out rfl _ _)
    have aR:=hJ (show Below x1.heap.size x1 x39 by rw [←dZ.out]; exact below_sto (bt aD.out dO.out) cP.out _ _)
    go_wp2_with fail
    clear mK mL mM mN mO mP mQ mR gV
    go_roundw
    case rel=>exact ⟨3+1,aS,aT,aU,aV,aW,aX,aY,aZ,bA,bB,bC,bD,bE,bF,bG,bH,bJ,bK,bL,bM,bN,bO,bP,bQ,s14,A14,n14,c14,t14,B14,m14,d14,bZ,cA,cB,cC,cD,cE,cF,cG,cH,cI,cJ,cK,cL,cM,cN,cO,aG,aH,aI,aJ,aK,aL,aM,aO,P0,Q0,P1,Q1,P2,Q2,P3,Q3,y4_10,z4_10,y5_10,z5_10,y6_10,z6_10,by omega,by go_num,mS.out,dM.out,cY.out,dA.out,mT.out,dG.out,dI.out,dJ.out,hJ (⟨fun _=>⟨rfl,rfl,by first | rfl | trivial⟩,fun _=>⟨rfl,rfl,by first | rfl | trivial⟩,fun _=>⟨rfl,rfl,by first | rfl | trivial⟩,fun _=>⟨rfl,rfl,by first | rfl | trivial⟩,fun h=>absurd h (by decide),fun h=>absurd h (by decide),fun h=>absurd h (by decide)⟩),aR.out⟩
    case measure=>simp [intOf] <;> omega
   have hcz:(C3 == 0)=false:=by simp [hc]
   have HV:=hJ (show feV [0,0,0,C3,C4,C5,C6]=C3 from feV_n hc)
   have HN:=hJ hc
   clear hc
   have aA:=hJ (BX.new cQ.out dO.out)
   have mU:=aA.out.frozen 12
   have mV:=aA.out.cell 12 rfl
   have mW:=aA.out.frozen 13
   have mX:=aA.out.cell 13 rfl
   have mY:=aA.out.frozen 14
   have mZ:=aA.out.cell 14 rfl
   have nA:=aA.out.frozen 15
   have nB:=aA.out.cell 15 rfl
   obtain ⟨x40,gW⟩:=nmz (World.setCell (World.setCell (World.setCell (World.setCell w38 ⟨x1.heap.size,12,none⟩ (.bool s14)) ⟨x1.heap.size,13,none⟩ (.slice A14 n14 c14)) ⟨x1.heap.size,14,none⟩ (.bool t14)) ⟨x1.heap.size,15,none⟩ (.slice B14 m14 d14))
   have gX:=hJ (show sto w38 x1.heap.size 12 [.bool s14,.slice A14 n14 c14,.bool t14,.slice B14 m14 d14]=x40 from gW)
   obtain ⟨x41,fK⟩:=nmz (x40.alloc (.cells #[.bool false,.slice none 0 0,.bool false,.slice none 0 0] 35))
   have gY:=hJ (show Below x40.heap.size x40 x41 by rw [←fK]; exact ((Below.refl _ _).alloc (Nat.le_refl _) _))
   have nC:=hJ (show BX 35 x41 x40.heap.size #[.bool false,.slice none 0 0,.bool false,.slice none 0 0] by rw [←fK]; exact (BX.at rfl))
   obtain ⟨nD,nE,nF,nG⟩:=nC.out.c4 0 1 2 3 rfl rfl rfl rfl
   have aR:=hJ (show Below x1.heap.size x1 x40 by rw [←gX.out]; exact below_sto (bt aD.out dO.out) cP.out _ _)
   have cT:=hJ (bt aR.out gY.out)
   have aC:=hJ (BX.new eE.out cT.out)
   have nH:=aC.out.frozen 0
   have nJ:=aC.out.cell 0 rfl
   have nK:=aC.out.frozen 1
   have nL:=aC.out.cell 1 rfl
   have nM:=aC.out.frozen 2
   have nN:=aC.out.cell 2 rfl
   have nO:=aC.out.frozen 3
   have nP:=aC.out.cell 3 rfl
   obtain ⟨x46,gZ⟩:=nmz (World.setCell (World.setCell (World.setCell (World.setCell x41 ⟨w.heap.size+5,0,none⟩ (.bool false)) ⟨w.heap.size+5,1,none⟩ (.slice none 0 0)) ⟨w.heap.size+5,2,none⟩ (.bool false)) ⟨w.heap.size+5,3,none⟩ (.slice none 0 0))
   have hA:=hJ (show sto x41 (w.heap.size+5) 0 [.bool false,.slice none 0 0,.bool false,.slice none 0 0]=x46 from gZ)
   have nQ:=hJ (show BX 35 x46 (w.heap.size+5) #[.bool false,.slice none 0 0,.bool false,.slice none 0 0] by rw [←hA.out]; exact BX.put aC.out _ _)
   have cU:=hJ (show Below w.heap.size w x40 by rw [←gX.out]; exact below_sto (bt cR.out dO.out) (Nat.le_trans (dT.out).size cP.out) _ _)
   have cV:=hJ (show Below w.heap.size w x46 by rw [←hA.out]; exact below_sto (bt cU.out gY.out) eF.out _ _)
   go_wp2
   clear mU mV mW mX mY mZ nA nB gW fK nD nE nF nG nH nJ nK nL nM nN nO nP gZ
   exact bodyPost_ret (results_cell1 rfl _ _ _ _ _ _ _ rfl nQ.out Tryz.underlying35 rfl F_size) rfl (by rw [HV.out,feP,feQ,if_neg HN.out,if_neg HN.out]; exact ⟨false,none,0,0,false,none,0,0,rfl,PF.zero _,cV.out⟩)
  ·(try rw [show ((4:Nat):Int)=4 from rfl])
   obtain rfl:P0=y0_10:=(aB.out.1 (by decide)).1.symm
   obtain rfl:Q0=z0_10:=(aB.out.1 (by decide)).2.1.symm
   obtain rfl:C0=0:=(aB.out.1 (by decide)).2.2
   obtain rfl:P1=y1_10:=(aB.out.2.1 (by decide)).1.symm
   obtain rfl:Q1=z1_10:=(aB.out.2.1 (by decide)).2.1.symm
   obtain rfl:C1=0:=(aB.out.2.1 (by decide)).2.2
   obtain rfl:P2=y2_10:=(aB.out.2.2.1 (by decide)).1.symm
   obtain rfl:Q2=z2_10:=(aB.out.2.2.1 (by decide)).2.1.symm
   obtain rfl:C2=0:=(aB.out.2.2.1 (by decide)).2.2
   obtain rfl:P3=y3_10:=(aB.out.2.2.2.1 (by decide)).1.symm
   obtain rfl:Q3=z3_10:=(aB.out.2.2.2.1 (by decide)).2.1.symm
   obtain rfl:C3=0:=(aB.out.2.2.2.1 (by decide)).2.2
   have hix:∀ wx,(Instr.index 200 (.agg #[.func (.func 139) #[] #[.pointer (some ⟨w.heap.size,0,none⟩),.pointer (some ⟨w.heap.size+3,0,none⟩),.pointer (some ⟨w.heap.size+2,0,none⟩)],.func (.func 140) #[] #[.pointer (some ⟨w.heap.size,0,none⟩),.pointer (some ⟨w.heap.size+4,0,none⟩),.pointer (some ⟨w.heap.size+2,0,none⟩)],.func (.func 141) #[] #[.pointer (some ⟨w.heap.size+1,0,none⟩),.pointer (some ⟨x1.heap.size,0,none⟩)],.func (.func 142) #[] #[.pointer (some ⟨w.heap.size,0,none⟩),.pointer (some ⟨w.heap.size+3,0,none⟩),.pointer (some ⟨w.heap.size+2,0,none⟩)],.func (.func 143) #[] #[.pointer (some ⟨w.heap.size,0,none⟩),.pointer (some ⟨w.heap.size+4,0,none⟩),.pointer (some ⟨w.heap.size+2,0,none⟩)],.func (.func 144) #[] #[.pointer (some ⟨w.heap.size+1,0,none⟩),.pointer (some ⟨x1.heap.size,0,none⟩)],.func (.func 145) #[] #[.pointer (some ⟨w.heap.size,0,none⟩),.pointer (some ⟨x1.heap.size,0,none⟩)]]) (.int .i64 4)).run Tryz.prog wx=.ok (.func (.func 143) #[] #[.pointer (some ⟨w.heap.size,0,none⟩),.pointer (some ⟨w.heap.size+4,0,none⟩),.pointer (some ⟨w.heap.size+2,0,none⟩)]) wx:=fun wx=>gx7_4 wx
   have dU:=hJ (BX.new eV.out aD.out)
   have fF:=hJ (BX.new gB.out aD.out)
   have eO:=hJ (BX.new eY.out aD.out)
   have nR:=hJ (PF.new hX.out cR.out)
   have fD:=hJ (PF.new fP.out cR.out)
   go_wp2_with fail
   clear hix
   refine (fda5_any p4 q4 p0 q0 s4 A4 n4 c4 t4 B4 m4 d4 s5 A5 n5 c5 t5 B5 m5 d5 s0 A0 n0 c0 t0 B0 m0 d0 s1 A1 n1 c1 t1 B1 m1 d1 w.heap.size (w.heap.size+4) (w.heap.size+2) wl10 dU.out fF.out eO.out nR.out fD.out fT.out eW.out).mono ?_
   rw [eT.out.1,eT.out.2.1,eT.out.2.2]
   rintro e w47 ⟨s15,A15,n15,c15,t15,B15,m15,d15,rfl,hr15,hb⟩
   have dP:=hJ hb
   have nS:=hJ hr15
   clear hb hr15
   by_cases hc:C4=0
   ·obtain rfl:=hc
    have aA:=hJ (BX.new cQ.out dP.out)
    have nT:=aA.out.frozen 16
    have nU:=aA.out.cell 16 rfl
    have nW:=aA.out.frozen 17
    have nX:=aA.out.cell 17 rfl
    have nY:=aA.out.frozen 18
    have nZ:=aA.out.cell 18 rfl
    have oA:=aA.out.frozen 19
    have oB:=aA.out.cell 19 rfl
    obtain ⟨x48,hB⟩:=nmz (World.setCell (World.setCell (World.setCell (World.setCell w47 ⟨x1.heap.size,16,none⟩ (.bool s15)) ⟨x1.heap.size,17,none⟩ (.slice A15 n15 c15)) ⟨x1.heap.size,18,none⟩ (.bool t15)) ⟨x1.heap.size,19,none⟩ (.slice B15 m15 d15))
    have eA:=hJ (show sto w47 x1.heap.size 16 [.bool s15,.slice A15 n15 c15,.bool t15,.slice B15 m15 d15]=x48 from hB)
    have oC:=hJ (show BX 198 x48 x1.heap.size #[.bool aS,.slice aT aU aV,.bool aW,.slice aX aY aZ,.bool bA,.slice bB bC bD,.bool bE,.slice bF bG bH,.bool bJ,.slice bK bL bM,.bool bN,.slice bO bP bQ,.bool bR,.slice bS bT bU,.bool bV,.slice bW bX bY,.bool s15,.slice A15 n15 c15,.bool t15,.slice B15 m15 d15,.bool cH,.slice cI cJ cK,.bool cL,.slice cM cN cO,.bool aG,.slice aH aI aJ,.bool aK,.slice aL aM aO] by rw [←eA.out]; exact BX.put aA.out _ _)
    have dL:=hJ (PF.new eH.out dP.out)
    have dM:=hJ (show PF x48 aS aT aU aV aW aX aY aZ P0 Q0 by rw [←eA.out]; exact PF.sto dL.out aA.out rfl _ _)
    have cX:=hJ (PF.new eI.out dP.out)
    have cY:=hJ (show PF x48 bA bB bC bD bE bF bG bH P1 Q1 by rw [←eA.out]; exact PF.sto cX.out aA.out rfl _ _)
    have cZ:=hJ (PF.new eJ.out dP.out)
    have dA:=hJ (show PF x48 bJ bK bL bM bN bO bP bQ P2 Q2 by rw [←eA.out]; exact PF.sto cZ.out aA.out rfl _ _)
    have dB:=hJ (PF.new eK.out dP.out)
    have dD:=hJ (show PF x48 bR bS bT bU bV bW bX bY P3 Q3 by rw [←eA.out]; exact PF.sto dB.out aA.out rfl _ _)
    have oD:=hJ (show PF x48 s15 A15 n15 c15 t15 B15 m15 d15 P4 Q4 by rw [←eA.out]; exact PF.sto nS.out aA.out rfl _ _)
    have dH:=hJ (PF.new eM.out dP.out)
    have dI:=hJ (show PF x48 cH cI cJ cK cL cM cN cO y5_10 z5_10 by rw [←eA.out]; exact PF.sto dH.out aA.out rfl _ _)
    have cS:=hJ (PF.new eN.out dP.out)
    have dJ:=hJ (show PF x48 aG aH aI aJ aK aL aM aO y6_10 z6_10 by rw [←eA.out]; exact PF.sto cS.out aA.out rfl _ _)
    have aR:=hJ (show Below x1.heap.size x1 x48 by rw [←eA.out]; exact below_sto (bt aD.out dP.out) cP.out _ _)
    go_wp2_with fail
    clear nT nU nW nX nY nZ oA oB hB
    go_roundw
    case rel=>exact ⟨4+1,aS,aT,aU,aV,aW,aX,aY,aZ,bA,bB,bC,bD,bE,bF,bG,bH,bJ,bK,bL,bM,bN,bO,bP,bQ,bR,bS,bT,bU,bV,bW,bX,bY,s15,A15,n15,c15,t15,B15,m15,d15,cH,cI,cJ,cK,cL,cM,cN,cO,aG,aH,aI,aJ,aK,aL,aM,aO,P0,Q0,P1,Q1,P2,Q2,P3,Q3,P4,Q4,y5_10,z5_10,y6_10,z6_10,by omega,by go_num,oC.out,dM.out,cY.out,dA.out,dD.out,oD.out,dI.out,dJ.out,hJ (⟨fun _=>⟨rfl,rfl,by first | rfl | trivial⟩,fun _=>⟨rfl,rfl,by first | rfl | trivial⟩,fun _=>⟨rfl,rfl,by first | rfl | trivial⟩,fun _=>⟨rfl,rfl,by first | rfl | trivial⟩,fun _=>⟨rfl,rfl,by first | rfl | trivial⟩,fun h=>absurd h (by decide),fun h=>absurd h (by decide)⟩),aR.out⟩
    case measure=>simp [intOf] <;> omega
   have hcz:(C4 == 0)=false:=by simp [hc]
   have HV:=hJ (show feV [0,0,0,0,C4,C5,C6]=C4 from feV_n hc)
   have HN:=hJ hc
   clear hc
   have aA:=hJ (BX.new cQ.out dP.out)
   have oE:=aA.out.frozen 16
   have oF:=aA.out.cell 16 rfl
   have oG:=aA.out.frozen 17
   have oH:=aA.out.cell 17 rfl
   have oI:=aA.out.frozen 18
   have oJ:=aA.out.cell 18 rfl
   have oK:=aA.out.frozen 19
   have oL:=aA.out.cell 19 rfl
   obtain ⟨x49,hC⟩:=nmz (World.setCell (World.setCell (World.setCell (World.setCell w47 ⟨x1.heap.size,16,none⟩ (.bool s15)) ⟨x1.heap.size,17,none⟩ (.slice A15 n15 c15)) ⟨x1.heap.size,18,none⟩ (.bool t15)) ⟨x1.heap.size,19,none⟩ (.slice B15 m15 d15))
   have hD:=hJ (show sto w47 x1.heap.size 16 [.bool s15,.slice A15 n15 c15,.bool t15,.slice B15 m15 d15]=x49 from hC)
   obtain ⟨x50,fL⟩:=nmz (x49.alloc (.cells #[.bool false,.slice none 0 0,.bool false,.slice none 0 0] 35))
   have hE:=hJ (show Below x49.heap.size x49 x50 by rw [←fL]; exact ((Below.refl _ _).alloc (Nat.le_refl _) _))
   have oM:=hJ (show BX 35 x50 x49.heap.size #[.bool false,.slice none 0 0,.bool false,.slice none 0 0] by rw [←fL]; exact (BX.at rfl))
   obtain ⟨oN,oO,oP,oQ⟩:=oM.out.c4 0 1 2 3 rfl rfl rfl rfl
   have aR:=hJ (show Below x1.heap.size x1 x49 by rw [←hD.out]; exact below_sto (bt aD.out dP.out) cP.out _ _)
   have cT:=hJ (bt aR.out hE.out)
   have aC:=hJ (BX.new eE.out cT.out)
   have oR:=aC.out.frozen 0
   have oS:=aC.out.cell 0 rfl
   have oT:=aC.out.frozen 1
   have oU:=aC.out.cell 1 rfl
   have oV:=aC.out.frozen 2
   have oW:=aC.out.cell 2 rfl
   have oX:=aC.out.frozen 3
   have oY:=aC.out.cell 3 rfl
   obtain ⟨x55,hF⟩:=nmz (World.setCell (World.setCell (World.setCell (World.setCell x50 ⟨w.heap.size+5,0,none⟩ (.bool false)) ⟨w.heap.size+5,1,none⟩ (.slice none 0 0)) ⟨w.heap.size+5,2,none⟩ (.bool false)) ⟨w.heap.size+5,3,none⟩ (.slice none 0 0))
   have hG:=hJ (show sto x50 (w.heap.size+5) 0 [.bool false,.slice none 0 0,.bool false,.slice none 0 0]=x55 from hF)
   have oZ:=hJ (show BX 35 x55 (w.heap.size+5) #[.bool false,.slice none 0 0,.bool false,.slice none 0 0] by rw [←hG.out]; exact BX.put aC.out _ _)
   have cU:=hJ (show Below w.heap.size w x49 by rw [←hD.out]; exact below_sto (bt cR.out dP.out) (Nat.le_trans (dT.out).size cP.out) _ _)
   have cV:=hJ (show Below w.heap.size w x55 by rw [←hG.out]; exact below_sto (bt cU.out hE.out) eF.out _ _)
   go_wp2
   clear oE oF oG oH oI oJ oK oL hC fL oN oO oP oQ oR oS oT oU oV oW oX oY hF
   exact bodyPost_ret (results_cell1 rfl _ _ _ _ _ _ _ rfl oZ.out Tryz.underlying35 rfl F_size) rfl (by rw [HV.out,feP,feQ,if_neg HN.out,if_neg HN.out]; exact ⟨false,none,0,0,false,none,0,0,rfl,PF.zero _,cV.out⟩)
  ·(try rw [show ((5:Nat):Int)=5 from rfl])
   obtain rfl:P0=y0_10:=(aB.out.1 (by decide)).1.symm
   obtain rfl:Q0=z0_10:=(aB.out.1 (by decide)).2.1.symm
   obtain rfl:C0=0:=(aB.out.1 (by decide)).2.2
   obtain rfl:P1=y1_10:=(aB.out.2.1 (by decide)).1.symm
   obtain rfl:Q1=z1_10:=(aB.out.2.1 (by decide)).2.1.symm
   obtain rfl:C1=0:=(aB.out.2.1 (by decide)).2.2
   obtain rfl:P2=y2_10:=(aB.out.2.2.1 (by decide)).1.symm
   obtain rfl:Q2=z2_10:=(aB.out.2.2.1 (by decide)).2.1.symm
   obtain rfl:C2=0:=(aB.out.2.2.1 (by decide)).2.2
   obtain rfl:P3=y3_10:=(aB.out.2.2.2.1 (by decide)).1.symm
   obtain rfl:Q3=z3_10:=(aB.out.2.2.2.1 (by decide)).2.1.symm
   obtain rfl:C3=0:=(aB.out.2.2.2.1 (by decide)).2.2
   obtain rfl:P4=y4_10:=(aB.out.2.2.2.2.1 (by decide)).1.symm
   obtain rfl:Q4=z4_10:=(aB.out.2.2.2.2.1 (by decide)).2.1.symm
   obtain rfl:C4=0:=(aB.out.2.2.2.2.1 (by decide)).2.2
   have hix:∀ wx,(Instr.index 200 (.agg #[.func (.func 139) #[] #[.pointer (some ⟨w.heap.size,0,none⟩),.pointer (some ⟨w.heap.size+3,0,none⟩),.pointer (some ⟨w.heap.size+2,0,none⟩)],.func (.func 140) #[] #[.pointer (some ⟨w.heap.size,0,none⟩),.pointer (some ⟨w.heap.size+4,0,none⟩),.pointer (some ⟨w.heap.size+2,0,none⟩)],.func (.func 141) #[] #[.pointer (some ⟨w.heap.size+1,0,none⟩),.pointer (some ⟨x1.heap.size,0,none⟩)],.func (.func 142) #[] #[.pointer (some ⟨w.heap.size,0,none⟩),.pointer (some ⟨w.heap.size+3,0,none⟩),.pointer (some ⟨w.heap.size+2,0,none⟩)],.func (.func 143) #[] #[.pointer (some ⟨w.heap.size,0,none⟩),.pointer (some ⟨w.heap.size+4,0,none⟩),.pointer (some ⟨w.heap.size+2,0,none⟩)],.func (.func 144) #[] #[.pointer (some ⟨w.heap.size+1,0,none⟩),.pointer (some ⟨x1.heap.size,0,none⟩)],.func (.func 145) #[] #[.pointer (some ⟨w.heap.size,0,none⟩),.pointer (some ⟨x1.heap.size,0,none⟩)]]) (.int .i64 5)).run Tryz.prog wx=.ok (.func (.func 144) #[] #[.pointer (some ⟨w.heap.size+1,0,none⟩),.pointer (some ⟨x1.heap.size,0,none⟩)]) wx:=fun wx=>gx7_5 wx
   have fI:=hJ (BX.new fZ.out aD.out)
   go_wp2_with fail
   clear hix
   refine (fda6_any P3 Q3 P4 Q4 aS aT aU aV aW aX aY aZ bA bB bC bD bE bF bG bH bJ bK bL bM bN bO bP bQ bR bS bT bU bV bW bX bY bZ cA cB cC cD cE cF cG cH cI cJ cK cL cM cN cO aG aH aI aJ aK aL aM aO (w.heap.size+1) x1.heap.size wl10 fI.out cQ.out eK.out eL.out fX.out fY.out).mono ?_
   rw [eU.out.1,eU.out.2.1,eU.out.2.2]
   rintro e w56 ⟨s16,A16,n16,c16,t16,B16,m16,d16,rfl,hr16,hb⟩
   have dQ:=hJ hb
   have pA:=hJ hr16
   clear hb hr16
   by_cases hc:C5=0
   ·obtain rfl:=hc
    have aA:=hJ (BX.new cQ.out dQ.out)
    have pB:=aA.out.frozen 20
    have pC:=aA.out.cell 20 rfl
    have pD:=aA.out.frozen 21
    have pE:=aA.out.cell 21 rfl
    have pF:=aA.out.frozen 22
    have pG:=aA.out.cell 22 rfl
    have pH:=aA.out.frozen 23
    have pI:=aA.out.cell 23 rfl
    obtain ⟨x57,hH⟩:=nmz (World.setCell (World.setCell (World.setCell (World.setCell w56 ⟨x1.heap.size,20,none⟩ (.bool s16)) ⟨x1.heap.size,21,none⟩ (.slice A16 n16 c16)) ⟨x1.heap.size,22,none⟩ (.bool t16)) ⟨x1.heap.size,23,none⟩ (.slice B16 m16 d16))
    have eB:=hJ (show sto w56 x1.heap.size 20 [.bool s16,.slice A16 n16 c16,.bool t16,.slice B16 m16 d16]=x57 from hH)
    have pJ:=hJ (show BX 198 x57 x1.heap.size #[.bool aS,.slice aT aU aV,.bool aW,.slice aX aY aZ,.bool bA,.slice bB bC bD,.bool bE,.slice bF bG bH,.bool bJ,.slice bK bL bM,.bool bN,.slice bO bP bQ,.bool bR,.slice bS bT bU,.bool bV,.slice bW bX bY,.bool bZ,.slice cA cB cC,.bool cD,.slice cE cF cG,.bool s16,.slice A16 n16 c16,.bool t16,.slice B16 m16 d16,.bool aG,.slice aH aI aJ,.bool aK,.slice aL aM aO] by rw [←eB.out]; exact BX.put aA.out _ _)
    have dL:=hJ (PF.new eH.out dQ.out)
    have dM:=hJ (show PF x57 aS aT aU aV aW aX aY aZ P0 Q0 by rw [←eB.out]; exact PF.sto dL.out aA.out rfl _ _)
    have cX:=hJ (PF.new eI.out dQ.out)
    have cY:=hJ (show PF x57 bA bB bC bD bE bF bG bH P1 Q1 by rw [←eB.out]; exact PF.sto cX.out aA.out rfl _ _)
    have cZ:=hJ (PF.new eJ.out dQ.out)
    have dA:=hJ (show PF x57 bJ bK bL bM bN bO bP bQ P2 Q2 by rw [←eB.out]; exact PF.sto cZ.out aA.out rfl _ _)
    have dB:=hJ (PF.new eK.out dQ.out)
    have dD:=hJ (show PF x57 bR bS bT bU bV bW bX bY P3 Q3 by rw [←eB.out]; exact PF.sto dB.out aA.out rfl _ _)
    have dE:=hJ (PF.new eL.out dQ.out)
    have dG:=hJ (show PF x57 bZ cA cB cC cD cE cF cG P4 Q4 by rw [←eB.out]; exact PF.sto dE.out aA.out rfl _ _)
    have pK:=hJ (show PF x57 s16 A16 n16 c16 t16 B16 m16 d16 P5 Q5 by rw [←eB.out]; exact PF.sto pA.out aA.out rfl _ _)
    have cS:=hJ (PF.new eN.out dQ.out)
    have dJ:=hJ (show PF x57 aG aH aI aJ aK aL aM aO y6_10 z6_10 by rw [←eB.out]; exact PF.sto cS.out aA.out rfl _ _)
    have aR:=hJ (show Below x1.heap.size x1 x57 by rw [←eB.out]; exact below_sto (bt aD.out dQ.out) cP.out _ _)
    go_wp2_with fail
    clear pB pC pD pE pF pG pH pI hH
    go_roundw
    case rel=>exact ⟨5+1,aS,aT,aU,aV,aW,aX,aY,aZ,bA,bB,bC,bD,bE,bF,bG,bH,bJ,bK,bL,bM,bN,bO,bP,bQ,bR,bS,bT,bU,bV,bW,bX,bY,bZ,cA,cB,cC,cD,cE,cF,cG,s16,A16,n16,c16,t16,B16,m16,d16,aG,aH,aI,aJ,aK,aL,aM,aO,P0,Q0,P1,Q1,P2,Q2,P3,Q3,P4,Q4,P5,Q5,y6_10,z6_10,by omega,by go_num,pJ.out,dM.out,cY.out,dA.out,dD.out,dG.out,pK.out,dJ.out,hJ (⟨fun _=>⟨rfl,rfl,by first | rfl | trivial⟩,fun _=>⟨rfl,rfl,by first | rfl | trivial⟩,fun _=>⟨rfl,rfl,by first | rfl | trivial⟩,fun _=>⟨rfl,rfl,by first | rfl | trivial⟩,fun _=>⟨rfl,rfl,by first | rfl | trivial⟩,fun _=>⟨rfl,rfl,by first | rfl | trivial⟩,fun h=>absurd h (by decide)⟩),aR.out⟩
    case measure=>simp [intOf] <;> omega
   have hcz:(C5 == 0)=false:=by simp [hc]
   have HV:=hJ (show feV [0,0,0,0,0,C5,C6]=C5 from feV_n hc)
   have HN:=hJ hc
   clear hc
   have aA:=hJ (BX.new cQ.out dQ.out)
   have pL:=aA.out.frozen 20
   have pM:=aA.out.cell 20 rfl
   have pN:=aA.out.frozen 21
   have pO:=aA.out.cell 21 rfl
   have pP:=aA.out.frozen 22
   have pQ:=aA.out.cell 22 rfl
   have pR:=aA.out.frozen 23
   have pS:=aA.out.cell 23 rfl
   obtain ⟨x58,hI⟩:=nmz (World.setCell (World.setCell (World.setCell (World.setCell w56 ⟨x1.heap.size,20,none⟩ (.bool s16)) ⟨x1.heap.size,21,none⟩ (.slice A16 n16 c16)) ⟨x1.heap.size,22,none⟩ (.bool t16)) ⟨x1.heap.size,23,none⟩ (.slice B16 m16 d16))
   have hK:=hJ (show sto w56 x1.heap.size 20 [.bool s16,.slice A16 n16 c16,.bool t16,.slice B16 m16 d16]=x58 from hI)
   obtain ⟨x59,fM⟩:=nmz (x58.alloc (.cells #[.bool false,.slice none 0 0,.bool false,.slice none 0 0] 35))
   have hL:=hJ (show Below x58.heap.size x58 x59 by rw [←fM]; exact ((Below.refl _ _).alloc (Nat.le_refl _) _))
   have pT:=hJ (show BX 35 x59 x58.heap.size #[.bool false,.slice none 0 0,.bool false,.slice none 0 0] by rw [←fM]; exact (BX.at rfl))
   obtain ⟨pU,pV,pW,pX⟩:=pT.out.c4 0 1 2 3 rfl rfl rfl rfl
   have aR:=hJ (show Below x1.heap.size x1 x58 by rw [←hK.out]; exact below_sto (bt aD.out dQ.out) cP.out _ _)
   have cT:=hJ (bt aR.out hL.out)
   have aC:=hJ (BX.new eE.out cT.out)
   have pY:=aC.out.frozen 0
   have pZ:=aC.out.cell 0 rfl
   have qA:=aC.out.frozen 1
   have qB:=aC.out.cell 1 rfl
   have qC:=aC.out.frozen 2
   have qD:=aC.out.cell 2 rfl
   have qE:=aC.out.frozen 3
   have qF:=aC.out.cell 3 rfl
   obtain ⟨x64,hM⟩:=nmz (World.setCell (World.setCell (World.setCell (World.setCell x59 ⟨w.heap.size+5,0,none⟩ (.bool false)) ⟨w.heap.size+5,1,none⟩ (.slice none 0 0)) ⟨w.heap.size+5,2,none⟩ (.bool false)) ⟨w.heap.size+5,3,none⟩ (.slice none 0 0))
   have hN:=hJ (show sto x59 (w.heap.size+5) 0 [.bool false,.slice none 0 0,.bool false,.slice none 0 0]=x64 from hM)
   have qG:=hJ (show BX 35 x64 (w.heap.size+5) #[.bool false,.slice none 0 0,.bool false,.slice none 0 0] by rw [←hN.out]; exact BX.put aC.out _ _)
   have cU:=hJ (show Below w.heap.size w x58 by rw [←hK.out]; exact below_sto (bt cR.out dQ.out) (Nat.le_trans (dT.out).size cP.out) _ _)
   have cV:=hJ (show Below w.heap.size w x64 by rw [←hN.out]; exact below_sto (bt cU.out hL.out) eF.out _ _)
   go_wp2
   clear pL pM pN pO pP pQ pR pS hI fM pU pV pW pX pY pZ qA qB qC qD qE qF hM
   exact bodyPost_ret (results_cell1 rfl _ _ _ _ _ _ _ rfl qG.out Tryz.underlying35 rfl F_size) rfl (by rw [HV.out,feP,feQ,if_neg HN.out,if_neg HN.out]; exact ⟨false,none,0,0,false,none,0,0,rfl,PF.zero _,cV.out⟩)
  ·(try rw [show ((6:Nat):Int)=6 from rfl])
   obtain rfl:P0=y0_10:=(aB.out.1 (by decide)).1.symm
   obtain rfl:Q0=z0_10:=(aB.out.1 (by decide)).2.1.symm
   obtain rfl:C0=0:=(aB.out.1 (by decide)).2.2
   obtain rfl:P1=y1_10:=(aB.out.2.1 (by decide)).1.symm
   obtain rfl:Q1=z1_10:=(aB.out.2.1 (by decide)).2.1.symm
   obtain rfl:C1=0:=(aB.out.2.1 (by decide)).2.2
   obtain rfl:P2=y2_10:=(aB.out.2.2.1 (by decide)).1.symm
   obtain rfl:Q2=z2_10:=(aB.out.2.2.1 (by decide)).2.1.symm
   obtain rfl:C2=0:=(aB.out.2.2.1 (by decide)).2.2
   obtain rfl:P3=y3_10:=(aB.out.2.2.2.1 (by decide)).1.symm
   obtain rfl:Q3=z3_10:=(aB.out.2.2.2.1 (by decide)).2.1.symm
   obtain rfl:C3=0:=(aB.out.2.2.2.1 (by decide)).2.2
   obtain rfl:P4=y4_10:=(aB.out.2.2.2.2.1 (by decide)).1.symm
   obtain rfl:Q4=z4_10:=(aB.out.2.2.2.2.1 (by decide)).2.1.symm
   obtain rfl:C4=0:=(aB.out.2.2.2.2.1 (by decide)).2.2
   obtain rfl:P5=y5_10:=(aB.out.2.2.2.2.2.1 (by decide)).1.symm
   obtain rfl:Q5=z5_10:=(aB.out.2.2.2.2.2.1 (by decide)).2.1.symm
   obtain rfl:C5=0:=(aB.out.2.2.2.2.2.1 (by decide)).2.2
   have hix:∀ wx,(Instr.index 200 (.agg #[.func (.func 139) #[] #[.pointer (some ⟨w.heap.size,0,none⟩),.pointer (some ⟨w.heap.size+3,0,none⟩),.pointer (some ⟨w.heap.size+2,0,none⟩)],.func (.func 140) #[] #[.pointer (some ⟨w.heap.size,0,none⟩),.pointer (some ⟨w.heap.size+4,0,none⟩),.pointer (some ⟨w.heap.size+2,0,none⟩)],.func (.func 141) #[] #[.pointer (some ⟨w.heap.size+1,0,none⟩),.pointer (some ⟨x1.heap.size,0,none⟩)],.func (.func 142) #[] #[.pointer (some ⟨w.heap.size,0,none⟩),.pointer (some ⟨w.heap.size+3,0,none⟩),.pointer (some ⟨w.heap.size+2,0,none⟩)],.func (.func 143) #[] #[.pointer (some ⟨w.heap.size,0,none⟩),.pointer (some ⟨w.heap.size+4,0,none⟩),.pointer (some ⟨w.heap.size+2,0,none⟩)],.func (.func 144) #[] #[.pointer (some ⟨w.heap.size+1,0,none⟩),.pointer (some ⟨x1.heap.size,0,none⟩)],.func (.func 145) #[] #[.pointer (some ⟨w.heap.size,0,none⟩),.pointer (some ⟨x1.heap.size,0,none⟩)]]) (.int .i64 6)).run Tryz.prog wx=.ok (.func (.func 145) #[] #[.pointer (some ⟨w.heap.size,0,none⟩),.pointer (some ⟨x1.heap.size,0,none⟩)]) wx:=fun wx=>gx7_6 wx
   have dU:=hJ (BX.new eV.out aD.out)
   go_wp2_with fail
   clear hix
   refine (fda7_any P2 Q2 P5 Q5 aS aT aU aV aW aX aY aZ bA bB bC bD bE bF bG bH bJ bK bL bM bN bO bP bQ bR bS bT bU bV bW bX bY bZ cA cB cC cD cE cF cG cH cI cJ cK cL cM cN cO aG aH aI aJ aK aL aM aO w.heap.size x1.heap.size wl10 dU.out cQ.out eJ.out eM.out hZ.out iA.out).mono ?_
   rw [fB.out.1,fB.out.2.1,fB.out.2.2]
   rintro e w65 ⟨s17,A17,n17,c17,t17,B17,m17,d17,rfl,hr17,hb⟩
   have dR:=hJ hb
   have qH:=hJ hr17
   clear hb hr17
   by_cases hc:C6=0
   ·obtain rfl:=hc
    have aA:=hJ (BX.new cQ.out dR.out)
    have qI:=aA.out.frozen 24
    have qJ:=aA.out.cell 24 rfl
    have qK:=aA.out.frozen 25
    have qL:=aA.out.cell 25 rfl
    have qM:=aA.out.frozen 26
    have qN:=aA.out.cell 26 rfl
    have qO:=aA.out.frozen 27
    have qP:=aA.out.cell 27 rfl
    obtain ⟨x66,hO⟩:=nmz (World.setCell (World.setCell (World.setCell (World.setCell w65 ⟨x1.heap.size,24,none⟩ (.bool s17)) ⟨x1.heap.size,25,none⟩ (.slice A17 n17 c17)) ⟨x1.heap.size,26,none⟩ (.bool t17)) ⟨x1.heap.size,27,none⟩ (.slice B17 m17 d17))
    have eC:=hJ (show sto w65 x1.heap.size 24 [.bool s17,.slice A17 n17 c17,.bool t17,.slice B17 m17 d17]=x66 from hO)
    have qQ:=hJ (show BX 198 x66 x1.heap.size #[.bool aS,.slice aT aU aV,.bool aW,.slice aX aY aZ,.bool bA,.slice bB bC bD,.bool bE,.slice bF bG bH,.bool bJ,.slice bK bL bM,.bool bN,.slice bO bP bQ,.bool bR,.slice bS bT bU,.bool bV,.slice bW bX bY,.bool bZ,.slice cA cB cC,.bool cD,.slice cE cF cG,.bool cH,.slice cI cJ cK,.bool cL,.slice cM cN cO,.bool s17,.slice A17 n17 c17,.bool t17,.slice B17 m17 d17] by rw [←eC.out]; exact BX.put aA.out _ _)
    have dL:=hJ (PF.new eH.out dR.out)
    have dM:=hJ (show PF x66 aS aT aU aV aW aX aY aZ P0 Q0 by rw [←eC.out]; exact PF.sto dL.out aA.out rfl _ _)
    have cX:=hJ (PF.new eI.out dR.out)
    have cY:=hJ (show PF x66 bA bB bC bD bE bF bG bH P1 Q1 by rw [←eC.out]; exact PF.sto cX.out aA.out rfl _ _)
    have cZ:=hJ (PF.new eJ.out dR.out)
    have dA:=hJ (show PF x66 bJ bK bL bM bN bO bP bQ P2 Q2 by rw [←eC.out]; exact PF.sto cZ.out aA.out rfl _ _)
    have dB:=hJ (PF.new eK.out dR.out)
    have dD:=hJ (show PF x66 bR bS bT bU bV bW bX bY P3 Q3 by rw [←eC.out]; exact PF.sto dB.out aA.out rfl _ _)
    have dE:=hJ (PF.new eL.out dR.out)
    have dG:=hJ (show PF x66 bZ cA cB cC cD cE cF cG P4 Q4 by rw [←eC.out]; exact PF.sto dE.out aA.out rfl _ _)
    have dH:=hJ (PF.new eM.out dR.out)
    have dI:=hJ (show PF x66 cH cI cJ cK cL cM cN cO P5 Q5 by rw [←eC.out]; exact PF.sto dH.out aA.out rfl _ _)
    have qR:=hJ (show PF x66 s17 A17 n17 c17 t17 B17 m17 d17 P6 Q6 by rw [←eC.out]; exact PF.sto qH.out aA.out rfl _ _)
    have aR:=hJ (show Below x1.heap.size x1 x66 by rw [←eC.out]; exact below_sto (bt aD.out dR.out) cP.out _ _)
    go_wp2_with fail
    clear qI qJ qK qL qM qN qO qP hO
    go_roundw
    case rel=>exact ⟨6+1,aS,aT,aU,aV,aW,aX,aY,aZ,bA,bB,bC,bD,bE,bF,bG,bH,bJ,bK,bL,bM,bN,bO,bP,bQ,bR,bS,bT,bU,bV,bW,bX,bY,bZ,cA,cB,cC,cD,cE,cF,cG,cH,cI,cJ,cK,cL,cM,cN,cO,s17,A17,n17,c17,t17,B17,m17,d17,P0,Q0,P1,Q1,P2,Q2,P3,Q3,P4,Q4,P5,Q5,P6,Q6,by omega,by go_num,qQ.out,dM.out,cY.out,dA.out,dD.out,dG.out,dI.out,qR.out,hJ (⟨fun _=>⟨rfl,rfl,by first | rfl | trivial⟩,fun _=>⟨rfl,rfl,by first | rfl | trivial⟩,fun _=>⟨rfl,rfl,by first | rfl | trivial⟩,fun _=>⟨rfl,rfl,by first | rfl | trivial⟩,fun _=>⟨rfl,rfl,by first | rfl | trivial⟩,fun _=>⟨rfl,rfl,by first | rfl | trivial⟩,fun _=>⟨rfl,rfl,by first | rfl | trivial⟩⟩),aR.out⟩
    case measure=>simp [intOf] <;> omega
   have hcz:(C6 == 0)=false:=by simp [hc]
   have HV:=hJ (show feV [0,0,0,0,0,0,C6]=C6 from feV_n hc)
   have HN:=hJ hc
   clear hc
   have aA:=hJ (BX.new cQ.out dR.out)
   have qS:=aA.out.frozen 24
   have qT:=aA.out.cell 24 rfl
   have qU:=aA.out.frozen 25
   have qV:=aA.out.cell 25 rfl
   have qW:=aA.out.frozen 26
   have qX:=aA.out.cell 26 rfl
   have qY:=aA.out.frozen 27
   have qZ:=aA.out.cell 27 rfl
   obtain ⟨x67,hP⟩:=nmz (World.setCell (World.setCell (World.setCell (World.setCell w65 ⟨x1.heap.size,24,none⟩ (.bool s17)) ⟨x1.heap.size,25,none⟩ (.slice A17 n17 c17)) ⟨x1.heap.size,26,none⟩ (.bool t17)) ⟨x1.heap.size,27,none⟩ (.slice B17 m17 d17))
   have hQ:=hJ (show sto w65 x1.heap.size 24 [.bool s17,.slice A17 n17 c17,.bool t17,.slice B17 m17 d17]=x67 from hP)
   obtain ⟨x68,fN⟩:=nmz (x67.alloc (.cells #[.bool false,.slice none 0 0,.bool false,.slice none 0 0] 35))
   have hR:=hJ (show Below x67.heap.size x67 x68 by rw [←fN]; exact ((Below.refl _ _).alloc (Nat.le_refl _) _))
   have rA:=hJ (show BX 35 x68 x67.heap.size #[.bool false,.slice none 0 0,.bool false,.slice none 0 0] by rw [←fN]; exact (BX.at rfl))
   obtain ⟨rB,rC,rE,rF⟩:=rA.out.c4 0 1 2 3 rfl rfl rfl rfl
   have aR:=hJ (show Below x1.heap.size x1 x67 by rw [←hQ.out]; exact below_sto (bt aD.out dR.out) cP.out _ _)
   have cT:=hJ (bt aR.out hR.out)
   have aC:=hJ (BX.new eE.out cT.out)
   have rG:=aC.out.frozen 0
   have rH:=aC.out.cell 0 rfl
   have rI:=aC.out.frozen 1
   have rJ:=aC.out.cell 1 rfl
   have rK:=aC.out.frozen 2
   have rL:=aC.out.cell 2 rfl
   have rM:=aC.out.frozen 3
   have rO:=aC.out.cell 3 rfl
   obtain ⟨x73,hS⟩:=nmz (World.setCell (World.setCell (World.setCell (World.setCell x68 ⟨w.heap.size+5,0,none⟩ (.bool false)) ⟨w.heap.size+5,1,none⟩ (.slice none 0 0)) ⟨w.heap.size+5,2,none⟩ (.bool false)) ⟨w.heap.size+5,3,none⟩ (.slice none 0 0))
   have hT:=hJ (show sto x68 (w.heap.size+5) 0 [.bool false,.slice none 0 0,.bool false,.slice none 0 0]=x73 from hS)
   have rP:=hJ (show BX 35 x73 (w.heap.size+5) #[.bool false,.slice none 0 0,.bool false,.slice none 0 0] by rw [←hT.out]; exact BX.put aC.out _ _)
   have cU:=hJ (show Below w.heap.size w x67 by rw [←hQ.out]; exact below_sto (bt cR.out dR.out) (Nat.le_trans (dT.out).size cP.out) _ _)
   have cV:=hJ (show Below w.heap.size w x73 by rw [←hT.out]; exact below_sto (bt cU.out hR.out) eF.out _ _)
   go_wp2
   clear qS qT qU qV qW qX qY qZ hP fN rB rC rE rF rG rH rI rJ rK rL rM rO hS
   exact bodyPost_ret (results_cell1 rfl _ _ _ _ _ _ _ rfl rP.out Tryz.underlying35 rfl F_size) rfl (by rw [HV.out,feP,feQ,if_neg HN.out,if_neg HN.out]; exact ⟨false,none,0,0,false,none,0,0,rfl,PF.zero _,cV.out⟩)
  ·(try rw [show ((7:Nat):Int)=7 from rfl])
   obtain rfl:P0=y0_10:=(aB.out.1 (by decide)).1.symm
   obtain rfl:Q0=z0_10:=(aB.out.1 (by decide)).2.1.symm
   obtain rfl:C0=0:=(aB.out.1 (by decide)).2.2
   obtain rfl:P1=y1_10:=(aB.out.2.1 (by decide)).1.symm
   obtain rfl:Q1=z1_10:=(aB.out.2.1 (by decide)).2.1.symm
   obtain rfl:C1=0:=(aB.out.2.1 (by decide)).2.2
   obtain rfl:P2=y2_10:=(aB.out.2.2.1 (by decide)).1.symm
   obtain rfl:Q2=z2_10:=(aB.out.2.2.1 (by decide)).2.1.symm
   obtain rfl:C2=0:=(aB.out.2.2.1 (by decide)).2.2
   obtain rfl:P3=y3_10:=(aB.out.2.2.2.1 (by decide)).1.symm
   obtain rfl:Q3=z3_10:=(aB.out.2.2.2.1 (by decide)).2.1.symm
   obtain rfl:C3=0:=(aB.out.2.2.2.1 (by decide)).2.2
   obtain rfl:P4=y4_10:=(aB.out.2.2.2.2.1 (by decide)).1.symm
   obtain rfl:Q4=z4_10:=(aB.out.2.2.2.2.1 (by decide)).2.1.symm
   obtain rfl:C4=0:=(aB.out.2.2.2.2.1 (by decide)).2.2
   obtain rfl:P5=y5_10:=(aB.out.2.2.2.2.2.1 (by decide)).1.symm
   obtain rfl:Q5=z5_10:=(aB.out.2.2.2.2.2.1 (by decide)).2.1.symm
   obtain rfl:C5=0:=(aB.out.2.2.2.2.2.1 (by decide)).2.2
   obtain rfl:P6=y6_10:=(aB.out.2.2.2.2.2.2 (by decide)).1.symm
   obtain rfl:Q6=z6_10:=(aB.out.2.2.2.2.2.2 (by decide)).2.1.symm
   obtain rfl:C6=0:=(aB.out.2.2.2.2.2.2 (by decide)).2.2
   obtain ⟨rQ,rR,rS,rT⟩:=cQ.out.c4 24 25 26 27 rfl rfl rfl rfl
   have dS:=hJ (BX.new eE.out aD.out)
   have rU:=dS.out.frozen 0
   have rV:=dS.out.cell 0 rfl
   have rW:=dS.out.frozen 1
   have rZ:=dS.out.cell 1 rfl
   have sA:=dS.out.frozen 2
   have sB:=dS.out.cell 2 rfl
   have sC:=dS.out.frozen 3
   have sD:=dS.out.cell 3 rfl
   obtain ⟨x78,hU⟩:=nmz (World.setCell (World.setCell (World.setCell (World.setCell wl10 ⟨w.heap.size+5,0,none⟩ (.bool aG)) ⟨w.heap.size+5,1,none⟩ (.slice aH aI aJ)) ⟨w.heap.size+5,2,none⟩ (.bool aK)) ⟨w.heap.size+5,3,none⟩ (.slice aL aM aO))
   have fO:=hJ (show sto wl10 (w.heap.size+5) 0 [.bool aG,.slice aH aI aJ,.bool aK,.slice aL aM aO]=x78 from hU)
   have sE:=hJ (show BX 35 x78 (w.heap.size+5) #[.bool aG,.slice aH aI aJ,.bool aK,.slice aL aM aO] by rw [←fO.out]; exact BX.put dS.out _ _)
   have sF:=hJ (show Below w.heap.size w x78 by rw [←fO.out]; exact below_sto cR.out eF.out _ _)
   have cS:=hJ (show PF x78 aG aH aI aJ aK aL aM aO P6 Q6 by rw [←fO.out]; exact PF.sto eN.out dS.out rfl _ _)
   go_wp2
   clear rQ rR rS rT rU rV rW rZ sA sB sC sD hU
   exact bodyPost_ret (results_cell1 rfl _ _ _ _ _ _ _ rfl sE.out Tryz.underlying35 rfl F_size) rfl (by rw [show feV [0,0,0,0,0,0,0]=0 from rfl,feP,feQ,if_pos rfl,if_pos rfl]; exact ⟨aG,aH,aI,aJ,aK,aL,aM,aO,rfl,cS.out,sF.out⟩)
theorem coords_any (s0:Bool) (A0:Option Addr) (n0 c0:Nat) (t0:Bool) (B0:Option Addr) (m0 d0:Nat) (s1:Bool) (A1:Option Addr) (n1 c1:Nat) (t1:Bool) (B1:Option Addr) (m1 d1:Nat) (w:World) :
  Calls Tryz.prog 103 #[.agg #[.bool s0,.slice A0 n0 c0,.bool t0,.slice B0 m0 d0,.bool s1,.slice A1 n1 c1,.bool t1,.slice B1 m1 d1]] w fun e w'=>e=.returned (.agg #[.bool s0,.slice A0 n0 c0,.bool t0,.slice B0 m0 d0,.bool s1,.slice A1 n1 c1,.bool t1,.slice B1 m1 d1])∧Below w.heap.size w w':=by
 obtain ⟨x1,aB⟩:=nmz ((w.alloc (.cells #[.bool s0,.slice A0 n0 c0,.bool t0,.slice B0 m0 d0,.bool s1,.slice A1 n1 c1,.bool t1,.slice B1 m1 d1] 37)).alloc (.cells #[.bool false,.slice none 0 0,.bool false,.slice none 0 0,.bool false,.slice none 0 0,.bool false,.slice none 0 0] 101))
 have aH:=hJ (show Below w.heap.size w x1 by rw [←aB]; exact (((Below.refl _ _).alloc (Nat.le_refl _) _).alloc (by simp only [World.size_alloc]; omega) _))
 have aC:=hJ (show BX 37 x1 w.heap.size #[.bool s0,.slice A0 n0 c0,.bool t0,.slice B0 m0 d0,.bool s1,.slice A1 n1 c1,.bool t1,.slice B1 m1 d1] by rw [←aB]; exact ((BX.at rfl).alloc _))
 have aA:=hJ (show BX 101 x1 (w.heap.size+1) #[.bool false,.slice none 0 0,.bool false,.slice none 0 0,.bool false,.slice none 0 0,.bool false,.slice none 0 0] by rw [←aB]; exact (BX.at (by simp only [World.size_alloc])))
 have aI:=hJ (show w.heap.size≤w.heap.size+1 by omega)
 obtain ⟨aJ,aK,aL,aM⟩:=aC.out.c4 0 1 2 3 rfl rfl rfl rfl
 obtain ⟨aO,aR,aS,aT⟩:=aC.out.c4 4 5 6 7 rfl rfl rfl rfl
 have aU:=aA.out.frozen 0
 have aV:=aA.out.cell 0 rfl
 have aW:=aA.out.frozen 1
 have aX:=aA.out.cell 1 rfl
 have aY:=aA.out.frozen 2
 have aZ:=aA.out.cell 2 rfl
 have bA:=aA.out.frozen 3
 have bB:=aA.out.cell 3 rfl
 have bC:=aA.out.frozen 4
 have bD:=aA.out.cell 4 rfl
 have bE:=aA.out.frozen 5
 have bF:=aA.out.cell 5 rfl
 have bG:=aA.out.frozen 6
 have bH:=aA.out.cell 6 rfl
 have bJ:=aA.out.frozen 7
 have bK:=aA.out.cell 7 rfl
 obtain ⟨x10,aD⟩:=nmz (World.setCell (World.setCell (World.setCell (World.setCell (World.setCell (World.setCell (World.setCell (World.setCell x1 ⟨w.heap.size+1,0,none⟩ (.bool s0)) ⟨w.heap.size+1,1,none⟩ (.slice A0 n0 c0)) ⟨w.heap.size+1,2,none⟩ (.bool t0)) ⟨w.heap.size+1,3,none⟩ (.slice B0 m0 d0)) ⟨w.heap.size+1,4,none⟩ (.bool s1)) ⟨w.heap.size+1,5,none⟩ (.slice A1 n1 c1)) ⟨w.heap.size+1,6,none⟩ (.bool t1)) ⟨w.heap.size+1,7,none⟩ (.slice B1 m1 d1))
 have aG:=hJ (show sto x1 (w.heap.size+1) 0 [.bool s0,.slice A0 n0 c0,.bool t0,.slice B0 m0 d0,.bool s1,.slice A1 n1 c1,.bool t1,.slice B1 m1 d1]=x10 from aD)
 have bL:=hJ (show BX 101 x10 (w.heap.size+1) #[.bool s0,.slice A0 n0 c0,.bool t0,.slice B0 m0 d0,.bool s1,.slice A1 n1 c1,.bool t1,.slice B1 m1 d1] by rw [←aG.out]; exact BX.put aA.out _ _)
 have bM:=hJ (show Below w.heap.size w x10 by rw [←aG.out]; exact below_sto aH.out aI.out _ _)
 go_enter Tryz.func103,Tryz.ntmps103
 go_wp2
 clear aB aJ aK aL aM aO aR aS aT aU aV aW aX aY aZ bA bB bC bD bE bF bG bH bJ bK aD
 exact bodyPost_ret (results_cell_row rfl _ _ _ _ _ _ _ rfl bL.out Tryz.underlying101 rfl F2_size) rfl ⟨rfl,bM.out⟩
theorem area_any (p0 q0 p1 q1 p2 q2 p3 q3 p4 q4 p5 q5 P0 Q0 C0 P1 Q1 C1 P2 Q2 C2 P3 Q3 C3 P4 Q4 C4 P5 Q5 C5 P6 Q6 C6:Int) (s0:Bool) (A0:Option Addr) (n0 c0:Nat) (t0:Bool) (B0:Option Addr) (m0 d0:Nat) (s1:Bool) (A1:Option Addr) (n1 c1:Nat) (t1:Bool) (B1:Option Addr) (m1 d1:Nat) (s2:Bool) (A2:Option Addr) (n2 c2:Nat) (t2:Bool) (B2:Option Addr) (m2 d2:Nat) (s3:Bool) (A3:Option Addr) (n3 c3:Nat) (t3:Bool) (B3:Option Addr) (m3 d3:Nat) (s4:Bool) (A4:Option Addr) (n4 c4:Nat) (t4:Bool) (B4:Option Addr) (m4 d4:Nat) (s5:Bool) (A5:Option Addr) (n5 c5:Nat) (t5:Bool) (B5:Option Addr) (m5 d5:Nat) (w:World) (h0:PF w s0 A0 n0 c0 t0 B0 m0 d0 p0 q0) (h1:PF w s1 A1 n1 c1 t1 B1 m1 d1 p1 q1) (h2:PF w s2 A2 n2 c2 t2 B2 m2 d2 p2 q2) (h3:PF w s3 A3 n3 c3 t3 B3 m3 d3 p3 q3) (h4:PF w s4 A4 n4 c4 t4 B4 m4 d4 p4 q4) (h5:PF w s5 A5 n5 c5 t5 B5 m5 d5 p5 q5) (f0:Fr p0 q0) (f1:Fr p1 q1) (f2:Fr p2 q2) (f3:Fr p3 q3) (f4:Fr p4 q4) (f5:Fr p5 q5) (e0:adP p2 q2 (-p0) q0=P0∧adQ p2 q2 (-p0) q0=Q0∧adC p2 q2 (-p0) q0=C0) (e1:adP p5 q5 (-p1) q1=P1∧adQ p5 q5 (-p1) q1=Q1∧adC p5 q5 (-p1) q1=C1) (e2:muP P0 Q0 P1 Q1=P2∧muQ P0 Q0 P1 Q1=Q2∧muC P0 Q0 P1 Q1=C2) (e3:adP p3 q3 (-p1) q1=P3∧adQ p3 q3 (-p1) q1=Q3∧adC p3 q3 (-p1) q1=C3) (e4:adP p4 q4 (-p0) q0=P4∧adQ p4 q4 (-p0) q0=Q4∧adC p4 q4 (-p0) q0=C4) (e5:muP P3 Q3 P4 Q4=P5∧muQ P3 Q3 P4 Q4=Q5∧muC P3 Q3 P4 Q4=C5) (e6:adP P2 Q2 (-P5) Q5=P6∧adQ P2 Q2 (-P5) Q5=Q6∧adC P2 Q2 (-P5) Q5=C6) :
  Calls Tryz.prog 70 #[.agg #[.bool s0,.slice A0 n0 c0,.bool t0,.slice B0 m0 d0,.bool s1,.slice A1 n1 c1,.bool t1,.slice B1 m1 d1],.agg #[.bool s2,.slice A2 n2 c2,.bool t2,.slice B2 m2 d2,.bool s3,.slice A3 n3 c3,.bool t3,.slice B3 m3 d3],.agg #[.bool s4,.slice A4 n4 c4,.bool t4,.slice B4 m4 d4,.bool s5,.slice A5 n5 c5,.bool t5,.slice B5 m5 d5]] w (RetFE (feP (feV [C0,C1,C2,C3,C4,C5,C6]) P6) (feQ (feV [C0,C1,C2,C3,C4,C5,C6]) Q6) (feV [C0,C1,C2,C3,C4,C5,C6]) w):=by
 have aV:=hJ h0
 have aW:=hJ h1
 have aX:=hJ h2
 have aY:=hJ h3
 have aZ:=hJ h4
 have bA:=hJ h5
 clear h0 h1 h2 h3 h4 h5
 obtain ⟨x1,aO⟩:=nmz ((((w.alloc (.cells #[.bool s0,.slice A0 n0 c0,.bool t0,.slice B0 m0 d0,.bool s1,.slice A1 n1 c1,.bool t1,.slice B1 m1 d1] 37)).alloc (.cells #[.bool s2,.slice A2 n2 c2,.bool t2,.slice B2 m2 d2,.bool s3,.slice A3 n3 c3,.bool t3,.slice B3 m3 d3] 37)).alloc (.cells #[.bool s4,.slice A4 n4 c4,.bool t4,.slice B4 m4 d4,.bool s5,.slice A5 n5 c5,.bool t5,.slice B5 m5 d5] 37)).alloc (.cells #[.bool false,.slice none 0 0,.bool false,.slice none 0 0] 35))
 have aB:=hJ (show Below w.heap.size w x1 by rw [←aO]; exact (((((Below.refl _ _).alloc (Nat.le_refl _) _).alloc (by simp only [World.size_alloc]; omega) _).alloc (by simp only [World.size_alloc]; omega) _).alloc (by simp only [World.size_alloc]; omega) _))
 have aC:=hJ (show BX 37 x1 w.heap.size #[.bool s0,.slice A0 n0 c0,.bool t0,.slice B0 m0 d0,.bool s1,.slice A1 n1 c1,.bool t1,.slice B1 m1 d1] by rw [←aO]; exact ((((BX.at rfl).alloc _).alloc _).alloc _))
 have aD:=hJ (show BX 37 x1 (w.heap.size+1) #[.bool s2,.slice A2 n2 c2,.bool t2,.slice B2 m2 d2,.bool s3,.slice A3 n3 c3,.bool t3,.slice B3 m3 d3] by rw [←aO]; exact (((BX.at (by simp only [World.size_alloc])).alloc _).alloc _))
 have aG:=hJ (show BX 37 x1 (w.heap.size+2) #[.bool s4,.slice A4 n4 c4,.bool t4,.slice B4 m4 d4,.bool s5,.slice A5 n5 c5,.bool t5,.slice B5 m5 d5] by rw [←aO]; exact ((BX.at (by simp only [World.size_alloc])).alloc _))
 have bB:=hJ (show BX 35 x1 (w.heap.size+3) #[.bool false,.slice none 0 0,.bool false,.slice none 0 0] by rw [←aO]; exact (BX.at (by simp only [World.size_alloc])))
 have aS:=hJ (show w.heap.size≤w.heap.size+3 by omega)
 have aR:Hid (∀ w',Below x1.heap.size x1 w'→(fun w':World=>w'.cell? ⟨w.heap.size,0,none⟩=some (.bool s0)∧w'.cell? ⟨w.heap.size,1,none⟩=some (.slice A0 n0 c0)∧w'.cell? ⟨w.heap.size,2,none⟩=some (.bool t0)∧w'.cell? ⟨w.heap.size,3,none⟩=some (.slice B0 m0 d0)∧w'.cell? ⟨w.heap.size,4,none⟩=some (.bool s1)∧w'.cell? ⟨w.heap.size,5,none⟩=some (.slice A1 n1 c1)∧w'.cell? ⟨w.heap.size,6,none⟩=some (.bool t1)∧w'.cell? ⟨w.heap.size,7,none⟩=some (.slice B1 m1 d1)∧w'.cell? ⟨w.heap.size+1,0,none⟩=some (.bool s2)∧w'.cell? ⟨w.heap.size+1,1,none⟩=some (.slice A2 n2 c2)∧w'.cell? ⟨w.heap.size+1,2,none⟩=some (.bool t2)∧w'.cell? ⟨w.heap.size+1,3,none⟩=some (.slice B2 m2 d2)∧w'.cell? ⟨w.heap.size+1,4,none⟩=some (.bool s3)∧w'.cell? ⟨w.heap.size+1,5,none⟩=some (.slice A3 n3 c3)∧w'.cell? ⟨w.heap.size+1,6,none⟩=some (.bool t3)∧w'.cell? ⟨w.heap.size+1,7,none⟩=some (.slice B3 m3 d3)∧w'.cell? ⟨w.heap.size+2,0,none⟩=some (.bool s4)∧w'.cell? ⟨w.heap.size+2,1,none⟩=some (.slice A4 n4 c4)∧w'.cell? ⟨w.heap.size+2,2,none⟩=some (.bool t4)∧w'.cell? ⟨w.heap.size+2,3,none⟩=some (.slice B4 m4 d4)∧w'.cell? ⟨w.heap.size+2,4,none⟩=some (.bool s5)∧w'.cell? ⟨w.heap.size+2,5,none⟩=some (.slice A5 n5 c5)∧w'.cell? ⟨w.heap.size+2,6,none⟩=some (.bool t5)∧w'.cell? ⟨w.heap.size+2,7,none⟩=some (.slice B5 m5 d5)∧Below w.heap.size w w') w'):=hJ (fun w' hb=>⟨(BX.new aC.out hb).cell 0 rfl,(BX.new aC.out hb).cell 1 rfl,(BX.new aC.out hb).cell 2 rfl,(BX.new aC.out hb).cell 3 rfl,(BX.new aC.out hb).cell 4 rfl,(BX.new aC.out hb).cell 5 rfl,(BX.new aC.out hb).cell 6 rfl,(BX.new aC.out hb).cell 7 rfl,(BX.new aD.out hb).cell 0 rfl,(BX.new aD.out hb).cell 1 rfl,(BX.new aD.out hb).cell 2 rfl,(BX.new aD.out hb).cell 3 rfl,(BX.new aD.out hb).cell 4 rfl,(BX.new aD.out hb).cell 5 rfl,(BX.new aD.out hb).cell 6 rfl,(BX.new aD.out hb).cell 7 rfl,(BX.new aG.out hb).cell 0 rfl,(BX.new aG.out hb).cell 1 rfl,(BX.new aG.out hb).cell 2 rfl,(BX.new aG.out hb).cell 3 rfl,(BX.new aG.out hb).cell 4 rfl,(BX.new aG.out hb).cell 5 rfl,(BX.new aG.out hb).cell 6 rfl,(BX.new aG.out hb).cell 7 rfl,(bt aB.out hb)⟩)
 have bC:=hJ (PF.new aV.out aB.out)
 have bD:=hJ (PF.new aW.out aB.out)
 have bE:=hJ (PF.new aX.out aB.out)
 have bF:=hJ (PF.new aY.out aB.out)
 have bG:=hJ (PF.new aZ.out aB.out)
 have bH:=hJ (PF.new bA.out aB.out)
 go_enter Tryz.func70,Tryz.ntmps70
 go_wp2_with fail
 clear aO
 obtain ⟨v2,hv2⟩:=nmz (World.drew x1)
 have bJ:=hJ (show Below x1.heap.size x1 v2 by rw [←hv2]; exact (Below.refl _ _).drew)
 refine whd aR hv2 (fun hHeld=>?_)
 clear hv2
 refine tq 0 ?_
 refine tq 2 ?_
 refine tq 4 ?_
 try simp only [PT]
 refine ryy [1] ?_
 refine .cons rfl (fun K hK=>?_) .nil
 go_simp
 go_at_call 103
 refine (coords_any s0 A0 n0 c0 t0 B0 m0 d0 s1 A1 n1 c1 t1 B1 m1 d1 v2).mono ?_
 rintro e v3 ⟨rfl,hb⟩
 have bK:=hJ hb
 clear hb
 go_wp2_with fail
 have aT:=hJ (bt bJ.out bK.out)
 clear hHeld
 refine hK.out _ _ (aR.out _ aT.out) (fun hHeld=>?_)
 clear hK K
 try simp only [PT]
 refine ryy [3] ?_
 refine .cons rfl (fun K hK=>?_) .nil
 go_simp
 go_at_call 103
 refine (coords_any s2 A2 n2 c2 t2 B2 m2 d2 s3 A3 n3 c3 t3 B3 m3 d3 v3).mono ?_
 rintro e v4 ⟨rfl,hb⟩
 have bL:=hJ hb
 clear hb
 go_wp2_with fail
 have aU:=hJ (bt aT.out bL.out)
 clear hHeld
 refine hK.out _ _ (aR.out _ aU.out) (fun hHeld=>?_)
 clear hK K
 try simp only [PT]
 refine ryy [5] ?_
 refine .cons rfl (fun K hK=>?_) .nil
 go_simp
 go_at_call 103
 refine (coords_any s4 A4 n4 c4 t4 B4 m4 d4 s5 A5 n5 c5 t5 B5 m5 d5 v4).mono ?_
 rintro e v5 ⟨rfl,hb⟩
 have bM:=hJ hb
 clear hb
 go_wp2_with fail
 have aH:=hJ (bt aU.out bM.out)
 clear hHeld
 refine hK.out _ _ (aR.out _ aH.out) (fun hHeld=>?_)
 clear hK K
 try simp only [PT]
 refine ryy [6] ?_
 refine .cons rfl (fun K hK=>?_) .nil
 go_simp
 go_at_call 101
 refine (fdarea_any p0 q0 p1 q1 p2 q2 p3 q3 p4 q4 p5 q5 P0 Q0 C0 P1 Q1 C1 P2 Q2 C2 P3 Q3 C3 P4 Q4 C4 P5 Q5 C5 P6 Q6 C6 s0 A0 n0 c0 t0 B0 m0 d0 s1 A1 n1 c1 t1 B1 m1 d1 s2 A2 n2 c2 t2 B2 m2 d2 s3 A3 n3 c3 t3 B3 m3 d3 s4 A4 n4 c4 t4 B4 m4 d4 s5 A5 n5 c5 t5 B5 m5 d5 v5 (PF.new bC.out aH.out) (PF.new bD.out aH.out) (PF.new bE.out aH.out) (PF.new bF.out aH.out) (PF.new bG.out aH.out) (PF.new bH.out aH.out) f0 f1 f2 f3 f4 f5 e0 e1 e2 e3 e4 e5 e6).mono ?_
 rintro e v6 ⟨s11,A11,n11,c11,t11,B11,m11,d11,rfl,hr11,hb⟩
 have bN:=hJ hb
 have bO:=hJ hr11
 clear hb hr11
 go_wp2_with fail
 have aL:=hJ (bt aH.out bN.out)
 clear hHeld
 refine hK.out _ _ (aR.out _ aL.out) (fun hHeld=>?_)
 clear hK K
 refine tq 7 ?_
 refine tq 8 ?_
 try simp only [PT]
 refine ryy [9] ?_
 refine .cons rfl (fun K hK=>?_) .nil
 have aA:=hJ (BX.new bB.out aL.out)
 have z7_0:=aA.out.cell 0 rfl
 have y7_0:=aA.out.frozen 0
 have z7_1:=aA.out.cell 1 rfl
 have y7_1:=aA.out.frozen 1
 have z7_2:=aA.out.cell 2 rfl
 have y7_2:=aA.out.frozen 2
 have z7_3:=aA.out.cell 3 rfl
 have y7_3:=aA.out.frozen 3
 have z7:=aA.out.lt
 go_simp
 obtain ⟨v7,hV⟩:=nmz (World.setCell (World.setCell (World.setCell (World.setCell v6 ⟨w.heap.size+3,0,none⟩ (.bool s11)) ⟨w.heap.size+3,1,none⟩ (.slice A11 n11 c11)) ⟨w.heap.size+3,2,none⟩ (.bool t11)) ⟨w.heap.size+3,3,none⟩ (.slice B11 m11 d11))
 rw [hV]
 have aM:=hJ (show sto v6 (w.heap.size+3) 0 [.bool s11,.slice A11 n11 c11,.bool t11,.slice B11 m11 d11]=v7 from hV)
 clear hV z7 z7_0 y7_0 z7_1 y7_1 z7_2 y7_2 z7_3 y7_3
 have bP:=hJ (show Below w.heap.size w v7 by rw [←aM.out]; exact below_sto (bt aB.out aL.out) aS.out _ _)
 have aI:=hJ (show BX 37 v7 w.heap.size #[.bool s0,.slice A0 n0 c0,.bool t0,.slice B0 m0 d0,.bool s1,.slice A1 n1 c1,.bool t1,.slice B1 m1 d1] by rw [←aM.out]; exact BX.far (BX.new aC.out aL.out) (show w.heap.size≠w.heap.size+3 by omega) _ _)
 have aJ:=hJ (show BX 37 v7 (w.heap.size+1) #[.bool s2,.slice A2 n2 c2,.bool t2,.slice B2 m2 d2,.bool s3,.slice A3 n3 c3,.bool t3,.slice B3 m3 d3] by rw [←aM.out]; exact BX.far (BX.new aD.out aL.out) (show w.heap.size+1≠w.heap.size+3 by omega) _ _)
 have aK:=hJ (show BX 37 v7 (w.heap.size+2) #[.bool s4,.slice A4 n4 c4,.bool t4,.slice B4 m4 d4,.bool s5,.slice A5 n5 c5,.bool t5,.slice B5 m5 d5] by rw [←aM.out]; exact BX.far (BX.new aG.out aL.out) (show w.heap.size+2≠w.heap.size+3 by omega) _ _)
 clear hHeld
 refine hK.out _ _ (⟨aI.out.cell 0 rfl,aI.out.cell 1 rfl,aI.out.cell 2 rfl,aI.out.cell 3 rfl,aI.out.cell 4 rfl,aI.out.cell 5 rfl,aI.out.cell 6 rfl,aI.out.cell 7 rfl,aJ.out.cell 0 rfl,aJ.out.cell 1 rfl,aJ.out.cell 2 rfl,aJ.out.cell 3 rfl,aJ.out.cell 4 rfl,aJ.out.cell 5 rfl,aJ.out.cell 6 rfl,aJ.out.cell 7 rfl,aK.out.cell 0 rfl,aK.out.cell 1 rfl,aK.out.cell 2 rfl,aK.out.cell 3 rfl,aK.out.cell 4 rfl,aK.out.cell 5 rfl,aK.out.cell 6 rfl,aK.out.cell 7 rfl,bP.out⟩) (fun hHeld=>?_)
 clear hK K
 refine tq 10 ?_
 try simp only [PT]
 refine wpAnyH_done (by kernel_rfl) ?_ _
 clear hHeld
 have bQ:=hJ (show BX 35 v7 (w.heap.size+3) #[.bool s11,.slice A11 n11 c11,.bool t11,.slice B11 m11 d11] by rw [←aM.out]; exact BX.put aA.out _ _)
 have bR:=hJ (show Below w.heap.size w v7 by rw [←aM.out]; exact below_sto (bt aB.out aL.out) aS.out _ _)
 have bS:=hJ (show PF v7 s11 A11 n11 c11 t11 B11 m11 d11 (feP (feV [C0,C1,C2,C3,C4,C5,C6]) P6) (feQ (feV [C0,C1,C2,C3,C4,C5,C6]) Q6) by rw [←aM.out]; exact PF.sto bO.out aA.out rfl _ _)
 go_wp2
 exact bodyPost_ret (results_cell1 rfl _ _ _ _ _ _ _ rfl bQ.out Tryz.underlying35 rfl F_size) rfl ⟨s11,A11,n11,c11,t11,B11,m11,d11,rfl,bS.out,bR.out⟩
end Go.Proofs.YtdgicnhadecldaaGreat
