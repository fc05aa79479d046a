/- Contracts: the steps of doubledArea over fractions. Conditions: as each statement has them. -/
import Derived.Test.YtagakcficjcfhaaGreatAE
import Derived.Test.YtagakcficjcfhaaGreatQL
import Derived.Laws.EntriesVeiled
namespace Go.Proofs.YtagakcficjcfhaaGreat
set_option maxRecDepth 100000
set_option maxHeartbeats 12800000
open Go.RowKit
attribute [local go_sem ↓] Go.wp_at_zero Go.wp_at_succ
set_option linter.unusedVariables false
set_option linter.unusedSimpArgs false
def feP (c P:Int):Int:=if c=0 then P else 0
def feQ (c Q:Int):Int:=if c=0 then Q else 1
theorem feV_n {c:Int} {l:List Int} (h:c≠0):feV (c :: l)=c:=if_neg h
theorem F2_size:(Tryz.prog.info? 101).map (·.size)=some 8:=by kernel_rfl
theorem gx7_0 {v0 v1 v2 v3 v4 v5 v6:Value} (wx:World):(Instr.index 200 (.agg #[v0,v1,v2,v3,v4,v5,v6]) (.int .i64 0)).run Tryz.prog wx=.ok v0 wx:=by
 first
  | kernel_rfl
  | simp [Instr.index,run_underlying Tryz.underlying200,asIntOf,go_sem]
theorem gx7_1 {v0 v1 v2 v3 v4 v5 v6:Value} (wx:World):(Instr.index 200 (.agg #[v0,v1,v2,v3,v4,v5,v6]) (.int .i64 1)).run Tryz.prog wx=.ok v1 wx:=by
 first
  | kernel_rfl
  | simp [Instr.index,run_underlying Tryz.underlying200,asIntOf,go_sem]
theorem gx7_2 {v0 v1 v2 v3 v4 v5 v6:Value} (wx:World):(Instr.index 200 (.agg #[v0,v1,v2,v3,v4,v5,v6]) (.int .i64 2)).run Tryz.prog wx=.ok v2 wx:=by
 first
  | kernel_rfl
  | simp [Instr.index,run_underlying Tryz.underlying200,asIntOf,go_sem]
theorem gx7_3 {v0 v1 v2 v3 v4 v5 v6:Value} (wx:World):(Instr.index 200 (.agg #[v0,v1,v2,v3,v4,v5,v6]) (.int .i64 3)).run Tryz.prog wx=.ok v3 wx:=by
 first
  | kernel_rfl
  | simp [Instr.index,run_underlying Tryz.underlying200,asIntOf,go_sem]
theorem gx7_4 {v0 v1 v2 v3 v4 v5 v6:Value} (wx:World):(Instr.index 200 (.agg #[v0,v1,v2,v3,v4,v5,v6]) (.int .i64 4)).run Tryz.prog wx=.ok v4 wx:=by
 first
  | kernel_rfl
  | simp [Instr.index,run_underlying Tryz.underlying200,asIntOf,go_sem]
theorem gx7_5 {v0 v1 v2 v3 v4 v5 v6:Value} (wx:World):(Instr.index 200 (.agg #[v0,v1,v2,v3,v4,v5,v6]) (.int .i64 5)).run Tryz.prog wx=.ok v5 wx:=by
 first
  | kernel_rfl
  | simp [Instr.index,run_underlying Tryz.underlying200,asIntOf,go_sem]
theorem gx7_6 {v0 v1 v2 v3 v4 v5 v6:Value} (wx:World):(Instr.index 200 (.agg #[v0,v1,v2,v3,v4,v5,v6]) (.int .i64 6)).run Tryz.prog wx=.ok v6 wx:=by
 first
  | kernel_rfl
  | simp [Instr.index,run_underlying Tryz.underlying200,asIntOf,go_sem]
theorem fda1_any (p q r s:Int) (s0:Bool) (A0:Option Addr) (n0 c0:Nat) (t0:Bool) (B0:Option Addr) (m0 d0:Nat) (s1:Bool) (A1:Option Addr) (n1 c1:Nat) (t1:Bool) (B1:Option Addr) (m1 d1:Nat) (s2:Bool) (A2:Option Addr) (n2 c2:Nat) (t2:Bool) (B2:Option Addr) (m2 d2:Nat) (s3:Bool) (A3:Option Addr) (n3 c3:Nat) (t3:Bool) (B3:Option Addr) (m3 d3:Nat) (gf gb ga:Nat) (w:World) (hf:BX 119 w gf #[.func (.func 102) #[] #[]]) (hb0:BX 101 w gb #[.bool s0,.slice A0 n0 c0,.bool t0,.slice B0 m0 d0,.bool s1,.slice A1 n1 c1,.bool t1,.slice B1 m1 d1]) (ha0:BX 101 w ga #[.bool s2,.slice A2 n2 c2,.bool t2,.slice B2 m2 d2,.bool s3,.slice A3 n3 c3,.bool t3,.slice B3 m3 d3]) (hx:PF w s0 A0 n0 c0 t0 B0 m0 d0 p q) (hy:PF w s2 A2 n2 c2 t2 B2 m2 d2 r s) (fx:Fr p q) (fy:Fr r s) :
  Calls Tryz.prog 139 #[.pointer (some ⟨gf,0,none⟩),.pointer (some ⟨gb,0,none⟩),.pointer (some ⟨ga,0,none⟩)] w (RetFE (adP p q (-r) s) (adQ p q (-r) s) (adC p q (-r) s) w):=by
 have HF:=hJ hf
 have HB:=hJ hb0
 have HA:=hJ ha0
 have HX:=hJ hx
 have HY:=hJ hy
 have aC:=hJ fx
 have aD:=hJ fy
 clear hf hb0 hx hy fx fy ha0
 obtain ⟨x1,aF⟩:=nmz (w.alloc (.cells #[.bool false,.slice none 0 0,.bool false,.slice none 0 0] 35))
 have aB:=hJ (show Below w.heap.size w x1 by rw [←aF]; exact ((Below.refl _ _).alloc (Nat.le_refl _) _))
 have aJ:=hJ (show BX 35 x1 w.heap.size #[.bool false,.slice none 0 0,.bool false,.slice none 0 0] by rw [←aF]; exact (BX.at rfl))
 have aK:=hJ (show w.heap.size≤w.heap.size by omega)
 have aL:=hJ (BX.new HF.out aB.out)
 have aM:=aL.out.cell 0 rfl
 have aN:=hJ (BX.new HB.out aB.out)
 obtain ⟨aO,aR,aS,aT⟩:=aN.out.c4 0 1 2 3 rfl rfl rfl rfl
 have aU:=hJ (BX.new HA.out aB.out)
 obtain ⟨aV,aW,aX,aY⟩:=aU.out.c4 0 1 2 3 rfl rfl rfl rfl
 have aZ:=hJ (PF.new HX.out aB.out)
 have bA:=hJ (PF.new HY.out aB.out)
 go_enter Tryz.func139,Tryz.ntmps139
 go_wp2_with fail
 clear aF aM aO aR aS aT aV aW aX aY
 refine (fsub_any p q r s s0 t0 s2 t2 A0 B0 A2 B2 n0 c0 m0 d0 n2 c2 m2 d2 x1 aZ.out bA.out aC.out.1.1 aD.out.1.1 aC.out.2.1 aC.out.2.2 aD.out.2.1 aD.out.2.2).mono ?_
 rintro e w11 ⟨s11,A11,n11,c11,t11,B11,m11,d11,rfl,hr11,hb⟩
 have aH:=hJ hb
 have bB:=hJ hr11
 clear hb hr11
 have aA:=hJ (BX.new aJ.out aH.out)
 have bC:=aA.out.frozen 0
 have bD:=aA.out.cell 0 rfl
 have bE:=aA.out.frozen 1
 have bF:=aA.out.cell 1 rfl
 have bG:=aA.out.frozen 2
 have bH:=aA.out.cell 2 rfl
 have bJ:=aA.out.frozen 3
 have bK:=aA.out.cell 3 rfl
 obtain ⟨x12,aI⟩:=nmz (World.setCell (World.setCell (World.setCell (World.setCell w11 ⟨w.heap.size,0,none⟩ (.bool s11)) ⟨w.heap.size,1,none⟩ (.slice A11 n11 c11)) ⟨w.heap.size,2,none⟩ (.bool t11)) ⟨w.heap.size,3,none⟩ (.slice B11 m11 d11))
 have aG:=hJ (show sto w11 w.heap.size 0 [.bool s11,.slice A11 n11 c11,.bool t11,.slice B11 m11 d11]=x12 from aI)
 have bL:=hJ (show BX 35 x12 w.heap.size #[.bool s11,.slice A11 n11 c11,.bool t11,.slice B11 m11 d11] by rw [←aG.out]; exact BX.put aA.out _ _)
 have bM:=hJ (show Below w.heap.size w x12 by rw [←aG.out]; exact below_sto (bt aB.out aH.out) aK.out _ _)
 have bN:=hJ (show PF x12 s11 A11 n11 c11 t11 B11 m11 d11 (adP p q (-r) s) (adQ p q (-r) s) by rw [←aG.out]; exact PF.sto bB.out aA.out rfl _ _)
 go_wp2
 clear bC bD bE bF bG bH bJ bK aI
 exact bodyPost_ret (results_cell1 rfl _ _ _ _ _ _ _ rfl bL.out Tryz.underlying35 rfl F_size) rfl ⟨s11,A11,n11,c11,t11,B11,m11,d11,rfl,bN.out,bM.out⟩
theorem fda2_any (p q r s:Int) (s0:Bool) (A0:Option Addr) (n0 c0:Nat) (t0:Bool) (B0:Option Addr) (m0 d0:Nat) (s1:Bool) (A1:Option Addr) (n1 c1:Nat) (t1:Bool) (B1:Option Addr) (m1 d1:Nat) (s2:Bool) (A2:Option Addr) (n2 c2:Nat) (t2:Bool) (B2:Option Addr) (m2 d2:Nat) (s3:Bool) (A3:Option Addr) (n3 c3:Nat) (t3:Bool) (B3:Option Addr) (m3 d3:Nat) (gf gb ga:Nat) (w:World) (hf:BX 119 w gf #[.func (.func 102) #[] #[]]) (hb0:BX 101 w gb #[.bool s0,.slice A0 n0 c0,.bool t0,.slice B0 m0 d0,.bool s1,.slice A1 n1 c1,.bool t1,.slice B1 m1 d1]) (ha0:BX 101 w ga #[.bool s2,.slice A2 n2 c2,.bool t2,.slice B2 m2 d2,.bool s3,.slice A3 n3 c3,.bool t3,.slice B3 m3 d3]) (hx:PF w s1 A1 n1 c1 t1 B1 m1 d1 p q) (hy:PF w s3 A3 n3 c3 t3 B3 m3 d3 r s) (fx:Fr p q) (fy:Fr r s) :
  Calls Tryz.prog 140 #[.pointer (some ⟨gf,0,none⟩),.pointer (some ⟨gb,0,none⟩),.pointer (some ⟨ga,0,none⟩)] w (RetFE (adP p q (-r) s) (adQ p q (-r) s) (adC p q (-r) s) w):=by
 have HF:=hJ hf
 have HB:=hJ hb0
 have HA:=hJ ha0
 have HX:=hJ hx
 have HY:=hJ hy
 have aC:=hJ fx
 have aD:=hJ fy
 clear hf hb0 hx hy fx fy ha0
 obtain ⟨x1,aF⟩:=nmz (w.alloc (.cells #[.bool false,.slice none 0 0,.bool false,.slice none 0 0] 35))
 have aB:=hJ (show Below w.heap.size w x1 by rw [←aF]; exact ((Below.refl _ _).alloc (Nat.le_refl _) _))
 have aJ:=hJ (show BX 35 x1 w.heap.size #[.bool false,.slice none 0 0,.bool false,.slice none 0 0] by rw [←aF]; exact (BX.at rfl))
 have aK:=hJ (show w.heap.size≤w.heap.size by omega)
 have aL:=hJ (BX.new HF.out aB.out)
 have aM:=aL.out.cell 0 rfl
 have aN:=hJ (BX.new HB.out aB.out)
 obtain ⟨aO,aR,aS,aT⟩:=aN.out.c4 4 5 6 7 rfl rfl rfl rfl
 have aU:=hJ (BX.new HA.out aB.out)
 obtain ⟨aV,aW,aX,aY⟩:=aU.out.c4 4 5 6 7 rfl rfl rfl rfl
 have aZ:=hJ (PF.new HX.out aB.out)
 have bA:=hJ (PF.new HY.out aB.out)
 go_enter Tryz.func140,Tryz.ntmps140
 go_wp2_with fail
 clear aF aM aO aR aS aT aV aW aX aY
 refine (fsub_any p q r s s1 t1 s3 t3 A1 B1 A3 B3 n1 c1 m1 d1 n3 c3 m3 d3 x1 aZ.out bA.out aC.out.1.1 aD.out.1.1 aC.out.2.1 aC.out.2.2 aD.out.2.1 aD.out.2.2).mono ?_
 rintro e w11 ⟨s11,A11,n11,c11,t11,B11,m11,d11,rfl,hr11,hb⟩
 have aH:=hJ hb
 have bB:=hJ hr11
 clear hb hr11
 have aA:=hJ (BX.new aJ.out aH.out)
 have bC:=aA.out.frozen 0
 have bD:=aA.out.cell 0 rfl
 have bE:=aA.out.frozen 1
 have bF:=aA.out.cell 1 rfl
 have bG:=aA.out.frozen 2
 have bH:=aA.out.cell 2 rfl
 have bJ:=aA.out.frozen 3
 have bK:=aA.out.cell 3 rfl
 obtain ⟨x12,aI⟩:=nmz (World.setCell (World.setCell (World.setCell (World.setCell w11 ⟨w.heap.size,0,none⟩ (.bool s11)) ⟨w.heap.size,1,none⟩ (.slice A11 n11 c11)) ⟨w.heap.size,2,none⟩ (.bool t11)) ⟨w.heap.size,3,none⟩ (.slice B11 m11 d11))
 have aG:=hJ (show sto w11 w.heap.size 0 [.bool s11,.slice A11 n11 c11,.bool t11,.slice B11 m11 d11]=x12 from aI)
 have bL:=hJ (show BX 35 x12 w.heap.size #[.bool s11,.slice A11 n11 c11,.bool t11,.slice B11 m11 d11] by rw [←aG.out]; exact BX.put aA.out _ _)
 have bM:=hJ (show Below w.heap.size w x12 by rw [←aG.out]; exact below_sto (bt aB.out aH.out) aK.out _ _)
 have bN:=hJ (show PF x12 s11 A11 n11 c11 t11 B11 m11 d11 (adP p q (-r) s) (adQ p q (-r) s) by rw [←aG.out]; exact PF.sto bB.out aA.out rfl _ _)
 go_wp2
 clear bC bD bE bF bG bH bJ bK aI
 exact bodyPost_ret (results_cell1 rfl _ _ _ _ _ _ _ rfl bL.out Tryz.underlying35 rfl F_size) rfl ⟨s11,A11,n11,c11,t11,B11,m11,d11,rfl,bN.out,bM.out⟩
theorem fda3_any (p q r s:Int) (s0:Bool) (A0:Option Addr) (n0 c0:Nat) (t0:Bool) (B0:Option Addr) (m0 d0:Nat) (s1:Bool) (A1:Option Addr) (n1 c1:Nat) (t1:Bool) (B1:Option Addr) (m1 d1:Nat) (s2:Bool) (A2:Option Addr) (n2 c2:Nat) (t2:Bool) (B2:Option Addr) (m2 d2:Nat) (s3:Bool) (A3:Option Addr) (n3 c3:Nat) (t3:Bool) (B3:Option Addr) (m3 d3:Nat) (s4:Bool) (A4:Option Addr) (n4 c4:Nat) (t4:Bool) (B4:Option Addr) (m4 d4:Nat) (s5:Bool) (A5:Option Addr) (n5 c5:Nat) (t5:Bool) (B5:Option Addr) (m5 d5:Nat) (s6:Bool) (A6:Option Addr) (n6 c6:Nat) (t6:Bool) (B6:Option Addr) (m6 d6:Nat) (gf gb:Nat) (w:World) (hf:BX 119 w gf #[.func (.func 66) #[] #[]]) (hb0:BX 198 w gb #[.bool s0,.slice A0 n0 c0,.bool t0,.slice B0 m0 d0,.bool s1,.slice A1 n1 c1,.bool t1,.slice B1 m1 d1,.bool s2,.slice A2 n2 c2,.bool t2,.slice B2 m2 d2,.bool s3,.slice A3 n3 c3,.bool t3,.slice B3 m3 d3,.bool s4,.slice A4 n4 c4,.bool t4,.slice B4 m4 d4,.bool s5,.slice A5 n5 c5,.bool t5,.slice B5 m5 d5,.bool s6,.slice A6 n6 c6,.bool t6,.slice B6 m6 d6]) (hx:PF w s0 A0 n0 c0 t0 B0 m0 d0 p q) (hy:PF w s1 A1 n1 c1 t1 B1 m1 d1 r s) (fx:Fr p q) (fy:Fr r s) :
  Calls Tryz.prog 141 #[.pointer (some ⟨gf,0,none⟩),.pointer (some ⟨gb,0,none⟩)] w (RetFE (muP p q r s) (muQ p q r s) (muC p q r s) w):=by
 have HF:=hJ hf
 have HB:=hJ hb0
 have HX:=hJ hx
 have HY:=hJ hy
 have aC:=hJ fx
 have aD:=hJ fy
 clear hf hb0 hx hy fx fy
 obtain ⟨x1,aF⟩:=nmz (w.alloc (.cells #[.bool false,.slice none 0 0,.bool false,.slice none 0 0] 35))
 have aB:=hJ (show Below w.heap.size w x1 by rw [←aF]; exact ((Below.refl _ _).alloc (Nat.le_refl _) _))
 have aK:=hJ (show BX 35 x1 w.heap.size #[.bool false,.slice none 0 0,.bool false,.slice none 0 0] by rw [←aF]; exact (BX.at rfl))
 have aL:=hJ (show w.heap.size≤w.heap.size by omega)
 have aM:=hJ (BX.new HF.out aB.out)
 have aN:=aM.out.cell 0 rfl
 have aH:=hJ (BX.new HB.out aB.out)
 obtain ⟨aO,aR,aS,aT⟩:=aH.out.c4 0 1 2 3 rfl rfl rfl rfl
 obtain ⟨aU,aV,aW,aX⟩:=aH.out.c4 4 5 6 7 rfl rfl rfl rfl
 have aY:=hJ (PF.new HX.out aB.out)
 have aZ:=hJ (PF.new HY.out aB.out)
 go_enter Tryz.func141,Tryz.ntmps141
 go_wp2_with fail
 clear aF aN aO aR aS aT aU aV aW aX
 refine (fmul_any p q r s s0 t0 s1 t1 A0 B0 A1 B1 n0 c0 m0 d0 n1 c1 m1 d1 x1 aY.out aZ.out aC.out.1.1 aD.out.1.1 aC.out.2.1 aC.out.2.2 aD.out.2.1 aD.out.2.2).mono ?_
 rintro e w11 ⟨s11,A11,n11,c11,t11,B11,m11,d11,rfl,hr11,hb⟩
 have aI:=hJ hb
 have bA:=hJ hr11
 clear hb hr11
 have aA:=hJ (BX.new aK.out aI.out)
 have bB:=aA.out.frozen 0
 have bC:=aA.out.cell 0 rfl
 have bD:=aA.out.frozen 1
 have bE:=aA.out.cell 1 rfl
 have bF:=aA.out.frozen 2
 have bG:=aA.out.cell 2 rfl
 have bH:=aA.out.frozen 3
 have bJ:=aA.out.cell 3 rfl
 obtain ⟨x12,aJ⟩:=nmz (World.setCell (World.setCell (World.setCell (World.setCell w11 ⟨w.heap.size,0,none⟩ (.bool s11)) ⟨w.heap.size,1,none⟩ (.slice A11 n11 c11)) ⟨w.heap.size,2,none⟩ (.bool t11)) ⟨w.heap.size,3,none⟩ (.slice B11 m11 d11))
 have aG:=hJ (show sto w11 w.heap.size 0 [.bool s11,.slice A11 n11 c11,.bool t11,.slice B11 m11 d11]=x12 from aJ)
 have bK:=hJ (show BX 35 x12 w.heap.size #[.bool s11,.slice A11 n11 c11,.bool t11,.slice B11 m11 d11] by rw [←aG.out]; exact BX.put aA.out _ _)
 have bL:=hJ (show Below w.heap.size w x12 by rw [←aG.out]; exact below_sto (bt aB.out aI.out) aL.out _ _)
 have bM:=hJ (show PF x12 s11 A11 n11 c11 t11 B11 m11 d11 (muP p q r s) (muQ p q r s) by rw [←aG.out]; exact PF.sto bA.out aA.out rfl _ _)
 go_wp2
 clear bB bC bD bE bF bG bH bJ aJ
 exact bodyPost_ret (results_cell1 rfl _ _ _ _ _ _ _ rfl bK.out Tryz.underlying35 rfl F_size) rfl ⟨s11,A11,n11,c11,t11,B11,m11,d11,rfl,bM.out,bL.out⟩
theorem fda4_any (p q r s:Int) (s0:Bool) (A0:Option Addr) (n0 c0:Nat) (t0:Bool) (B0:Option Addr) (m0 d0:Nat) (s1:Bool) (A1:Option Addr) (n1 c1:Nat) (t1:Bool) (B1:Option Addr) (m1 d1:Nat) (s2:Bool) (A2:Option Addr) (n2 c2:Nat) (t2:Bool) (B2:Option Addr) (m2 d2:Nat) (s3:Bool) (A3:Option Addr) (n3 c3:Nat) (t3:Bool) (B3:Option Addr) (m3 d3:Nat) (gf gb ga:Nat) (w:World) (hf:BX 119 w gf #[.func (.func 102) #[] #[]]) (hb0:BX 101 w gb #[.bool s0,.slice A0 n0 c0,.bool t0,.slice B0 m0 d0,.bool s1,.slice A1 n1 c1,.bool t1,.slice B1 m1 d1]) (ha0:BX 101 w ga #[.bool s2,.slice A2 n2 c2,.bool t2,.slice B2 m2 d2,.bool s3,.slice A3 n3 c3,.bool t3,.slice B3 m3 d3]) (hx:PF w s1 A1 n1 c1 t1 B1 m1 d1 p q) (hy:PF w s3 A3 n3 c3 t3 B3 m3 d3 r s) (fx:Fr p q) (fy:Fr r s) :
  Calls Tryz.prog 142 #[.pointer (some ⟨gf,0,none⟩),.pointer (some ⟨gb,0,none⟩),.pointer (some ⟨ga,0,none⟩)] w (RetFE (adP p q (-r) s) (adQ p q (-r) s) (adC p q (-r) s) w):=by
 have HF:=hJ hf
 have HB:=hJ hb0
 have HA:=hJ ha0
 have HX:=hJ hx
 have HY:=hJ hy
 have aC:=hJ fx
 have aD:=hJ fy
 clear hf hb0 hx hy fx fy ha0
 obtain ⟨x1,aF⟩:=nmz (w.alloc (.cells #[.bool false,.slice none 0 0,.bool false,.slice none 0 0] 35))
 have aB:=hJ (show Below w.heap.size w x1 by rw [←aF]; exact ((Below.refl _ _).alloc (Nat.le_refl _) _))
 have aJ:=hJ (show BX 35 x1 w.heap.size #[.bool false,.slice none 0 0,.bool false,.slice none 0 0] by rw [←aF]; exact (BX.at rfl))
 have aK:=hJ (show w.heap.size≤w.heap.size by omega)
 have aL:=hJ (BX.new HF.out aB.out)
 have aM:=aL.out.cell 0 rfl
 have aN:=hJ (BX.new HB.out aB.out)
 obtain ⟨aO,aR,aS,aT⟩:=aN.out.c4 4 5 6 7 rfl rfl rfl rfl
 have aU:=hJ (BX.new HA.out aB.out)
 obtain ⟨aV,aW,aX,aY⟩:=aU.out.c4 4 5 6 7 rfl rfl rfl rfl
 have aZ:=hJ (PF.new HX.out aB.out)
 have bA:=hJ (PF.new HY.out aB.out)
 go_enter Tryz.func142,Tryz.ntmps142
 go_wp2_with fail
 clear aF aM aO aR aS aT aV aW aX aY
 refine (fsub_any p q r s s1 t1 s3 t3 A1 B1 A3 B3 n1 c1 m1 d1 n3 c3 m3 d3 x1 aZ.out bA.out aC.out.1.1 aD.out.1.1 aC.out.2.1 aC.out.2.2 aD.out.2.1 aD.out.2.2).mono ?_
 rintro e w11 ⟨s11,A11,n11,c11,t11,B11,m11,d11,rfl,hr11,hb⟩
 have aH:=hJ hb
 have bB:=hJ hr11
 clear hb hr11
 have aA:=hJ (BX.new aJ.out aH.out)
 have bC:=aA.out.frozen 0
 have bD:=aA.out.cell 0 rfl
 have bE:=aA.out.frozen 1
 have bF:=aA.out.cell 1 rfl
 have bG:=aA.out.frozen 2
 have bH:=aA.out.cell 2 rfl
 have bJ:=aA.out.frozen 3
 have bK:=aA.out.cell 3 rfl
 obtain ⟨x12,aI⟩:=nmz (World.setCell (World.setCell (World.setCell (World.setCell w11 ⟨w.heap.size,0,none⟩ (.bool s11)) ⟨w.heap.size,1,none⟩ (.slice A11 n11 c11)) ⟨w.heap.size,2,none⟩ (.bool t11)) ⟨w.heap.size,3,none⟩ (.slice B11 m11 d11))
 have aG:=hJ (show sto w11 w.heap.size 0 [.bool s11,.slice A11 n11 c11,.bool t11,.slice B11 m11 d11]=x12 from aI)
 have bL:=hJ (show BX 35 x12 w.heap.size #[.bool s11,.slice A11 n11 c11,.bool t11,.slice B11 m11 d11] by rw [←aG.out]; exact BX.put aA.out _ _)
 have bM:=hJ (show Below w.heap.size w x12 by rw [←aG.out]; exact below_sto (bt aB.out aH.out) aK.out _ _)
 have bN:=hJ (show PF x12 s11 A11 n11 c11 t11 B11 m11 d11 (adP p q (-r) s) (adQ p q (-r) s) by rw [←aG.out]; exact PF.sto bB.out aA.out rfl _ _)
 go_wp2
 clear bC bD bE bF bG bH bJ bK aI
 exact bodyPost_ret (results_cell1 rfl _ _ _ _ _ _ _ rfl bL.out Tryz.underlying35 rfl F_size) rfl ⟨s11,A11,n11,c11,t11,B11,m11,d11,rfl,bN.out,bM.out⟩
theorem fda5_any (p q r s:Int) (s0:Bool) (A0:Option Addr) (n0 c0:Nat) (t0:Bool) (B0:Option Addr) (m0 d0:Nat) (s1:Bool) (A1:Option Addr) (n1 c1:Nat) (t1:Bool) (B1:Option Addr) (m1 d1:Nat) (s2:Bool) (A2:Option Addr) (n2 c2:Nat) (t2:Bool) (B2:Option Addr) (m2 d2:Nat) (s3:Bool) (A3:Option Addr) (n3 c3:Nat) (t3:Bool) (B3:Option Addr) (m3 d3:Nat) (gf gb ga:Nat) (w:World) (hf:BX 119 w gf #[.func (.func 102) #[] #[]]) (hb0:BX 101 w gb #[.bool s0,.slice A0 n0 c0,.bool t0,.slice B0 m0 d0,.bool s1,.slice A1 n1 c1,.bool t1,.slice B1 m1 d1]) (ha0:BX 101 w ga #[.bool s2,.slice A2 n2 c2,.bool t2,.slice B2 m2 d2,.bool s3,.slice A3 n3 c3,.bool t3,.slice B3 m3 d3]) (hx:PF w s0 A0 n0 c0 t0 B0 m0 d0 p q) (hy:PF w s2 A2 n2 c2 t2 B2 m2 d2 r s) (fx:Fr p q) (fy:Fr r s) :
  Calls Tryz.prog 143 #[.pointer (some ⟨gf,0,none⟩),.pointer (some ⟨gb,0,none⟩),.pointer (some ⟨ga,0,none⟩)] w (RetFE (adP p q (-r) s) (adQ p q (-r) s) (adC p q (-r) s) w):=by
 have HF:=hJ hf
 have HB:=hJ hb0
 have HA:=hJ ha0
 have HX:=hJ hx
 have HY:=hJ hy
 have aC:=hJ fx
 have aD:=hJ fy
 clear hf hb0 hx hy fx fy ha0
 obtain ⟨x1,aF⟩:=nmz (w.alloc (.cells #[.bool false,.slice none 0 0,.bool false,.slice none 0 0] 35))
 have aB:=hJ (show Below w.heap.size w x1 by rw [←aF]; exact ((Below.refl _ _).alloc (Nat.le_refl _) _))
 have aJ:=hJ (show BX 35 x1 w.heap.size #[.bool false,.slice none 0 0,.bool false,.slice none 0 0] by rw [←aF]; exact (BX.at rfl))
 have aK:=hJ (show w.heap.size≤w.heap.size by omega)
 have aL:=hJ (BX.new HF.out aB.out)
 have aM:=aL.out.cell 0 rfl
 have aN:=hJ (BX.new HB.out aB.out)
 obtain ⟨aO,aR,aS,aT⟩:=aN.out.c4 0 1 2 3 rfl rfl rfl rfl
 have aU:=hJ (BX.new HA.out aB.out)
 obtain ⟨aV,aW,aX,aY⟩:=aU.out.c4 0 1 2 3 rfl rfl rfl rfl
 have aZ:=hJ (PF.new HX.out aB.out)
 have bA:=hJ (PF.new HY.out aB.out)
 go_enter Tryz.func143,Tryz.ntmps143
 go_wp2_with fail
 clear aF aM aO aR aS aT aV aW aX aY
 refine (fsub_any p q r s s0 t0 s2 t2 A0 B0 A2 B2 n0 c0 m0 d0 n2 c2 m2 d2 x1 aZ.out bA.out aC.out.1.1 aD.out.1.1 aC.out.2.1 aC.out.2.2 aD.out.2.1 aD.out.2.2).mono ?_
 rintro e w11 ⟨s11,A11,n11,c11,t11,B11,m11,d11,rfl,hr11,hb⟩
 have aH:=hJ hb
 have bB:=hJ hr11
 clear hb hr11
 have aA:=hJ (BX.new aJ.out aH.out)
 have bC:=aA.out.frozen 0
 have bD:=aA.out.cell 0 rfl
 have bE:=aA.out.frozen 1
 have bF:=aA.out.cell 1 rfl
 have bG:=aA.out.frozen 2
 have bH:=aA.out.cell 2 rfl
 have bJ:=aA.out.frozen 3
 have bK:=aA.out.cell 3 rfl
 obtain ⟨x12,aI⟩:=nmz (World.setCell (World.setCell (World.setCell (World.setCell w11 ⟨w.heap.size,0,none⟩ (.bool s11)) ⟨w.heap.size,1,none⟩ (.slice A11 n11 c11)) ⟨w.heap.size,2,none⟩ (.bool t11)) ⟨w.heap.size,3,none⟩ (.slice B11 m11 d11))
 have aG:=hJ (show sto w11 w.heap.size 0 [.bool s11,.slice A11 n11 c11,.bool t11,.slice B11 m11 d11]=x12 from aI)
 have bL:=hJ (show BX 35 x12 w.heap.size #[.bool s11,.slice A11 n11 c11,.bool t11,.slice B11 m11 d11] by rw [←aG.out]; exact BX.put aA.out _ _)
 have bM:=hJ (show Below w.heap.size w x12 by rw [←aG.out]; exact below_sto (bt aB.out aH.out) aK.out _ _)
 have bN:=hJ (show PF x12 s11 A11 n11 c11 t11 B11 m11 d11 (adP p q (-r) s) (adQ p q (-r) s) by rw [←aG.out]; exact PF.sto bB.out aA.out rfl _ _)
 go_wp2
 clear bC bD bE bF bG bH bJ bK aI
 exact bodyPost_ret (results_cell1 rfl _ _ _ _ _ _ _ rfl bL.out Tryz.underlying35 rfl F_size) rfl ⟨s11,A11,n11,c11,t11,B11,m11,d11,rfl,bN.out,bM.out⟩
theorem fda6_any (p q r s:Int) (s0:Bool) (A0:Option Addr) (n0 c0:Nat) (t0:Bool) (B0:Option Addr) (m0 d0:Nat) (s1:Bool) (A1:Option Addr) (n1 c1:Nat) (t1:Bool) (B1:Option Addr) (m1 d1:Nat) (s2:Bool) (A2:Option Addr) (n2 c2:Nat) (t2:Bool) (B2:Option Addr) (m2 d2:Nat) (s3:Bool) (A3:Option Addr) (n3 c3:Nat) (t3:Bool) (B3:Option Addr) (m3 d3:Nat) (s4:Bool) (A4:Option Addr) (n4 c4:Nat) (t4:Bool) (B4:Option Addr) (m4 d4:Nat) (s5:Bool) (A5:Option Addr) (n5 c5:Nat) (t5:Bool) (B5:Option Addr) (m5 d5:Nat) (s6:Bool) (A6:Option Addr) (n6 c6:Nat) (t6:Bool) (B6:Option Addr) (m6 d6:Nat) (gf gb:Nat) (w:World) (hf:BX 119 w gf #[.func (.func 66) #[] #[]]) (hb0:BX 198 w gb #[.bool s0,.slice A0 n0 c0,.bool t0,.slice B0 m0 d0,.bool s1,.slice A1 n1 c1,.bool t1,.slice B1 m1 d1,.bool s2,.slice A2 n2 c2,.bool t2,.slice B2 m2 d2,.bool s3,.slice A3 n3 c3,.bool t3,.slice B3 m3 d3,.bool s4,.slice A4 n4 c4,.bool t4,.slice B4 m4 d4,.bool s5,.slice A5 n5 c5,.bool t5,.slice B5 m5 d5,.bool s6,.slice A6 n6 c6,.bool t6,.slice B6 m6 d6]) (hx:PF w s3 A3 n3 c3 t3 B3 m3 d3 p q) (hy:PF w s4 A4 n4 c4 t4 B4 m4 d4 r s) (fx:Fr p q) (fy:Fr r s) :
  Calls Tryz.prog 144 #[.pointer (some ⟨gf,0,none⟩),.pointer (some ⟨gb,0,none⟩)] w (RetFE (muP p q r s) (muQ p q r s) (muC p q r s) w):=by
 have HF:=hJ hf
 have HB:=hJ hb0
 have HX:=hJ hx
 have HY:=hJ hy
 have aC:=hJ fx
 have aD:=hJ fy
 clear hf hb0 hx hy fx fy
 obtain ⟨x1,aF⟩:=nmz (w.alloc (.cells #[.bool false,.slice none 0 0,.bool false,.slice none 0 0] 35))
 have aB:=hJ (show Below w.heap.size w x1 by rw [←aF]; exact ((Below.refl _ _).alloc (Nat.le_refl _) _))
 have aK:=hJ (show BX 35 x1 w.heap.size #[.bool false,.slice none 0 0,.bool false,.slice none 0 0] by rw [←aF]; exact (BX.at rfl))
 have aL:=hJ (show w.heap.size≤w.heap.size by omega)
 have aM:=hJ (BX.new HF.out aB.out)
 have aN:=aM.out.cell 0 rfl
 have aH:=hJ (BX.new HB.out aB.out)
 obtain ⟨aO,aR,aS,aT⟩:=aH.out.c4 12 13 14 15 rfl rfl rfl rfl
 obtain ⟨aU,aV,aW,aX⟩:=aH.out.c4 16 17 18 19 rfl rfl rfl rfl
 have aY:=hJ (PF.new HX.out aB.out)
 have aZ:=hJ (PF.new HY.out aB.out)
 go_enter Tryz.func144,Tryz.ntmps144
 go_wp2_with fail
 clear aF aN aO aR aS aT aU aV aW aX
 refine (fmul_any p q r s s3 t3 s4 t4 A3 B3 A4 B4 n3 c3 m3 d3 n4 c4 m4 d4 x1 aY.out aZ.out aC.out.1.1 aD.out.1.1 aC.out.2.1 aC.out.2.2 aD.out.2.1 aD.out.2.2).mono ?_
 rintro e w11 ⟨s11,A11,n11,c11,t11,B11,m11,d11,rfl,hr11,hb⟩
 have aI:=hJ hb
 have bA:=hJ hr11
 clear hb hr11
 have aA:=hJ (BX.new aK.out aI.out)
 have bB:=aA.out.frozen 0
 have bC:=aA.out.cell 0 rfl
 have bD:=aA.out.frozen 1
 have bE:=aA.out.cell 1 rfl
 have bF:=aA.out.frozen 2
 have bG:=aA.out.cell 2 rfl
 have bH:=aA.out.frozen 3
 have bJ:=aA.out.cell 3 rfl
 obtain ⟨x12,aJ⟩:=nmz (World.setCell (World.setCell (World.setCell (World.setCell w11 ⟨w.heap.size,0,none⟩ (.bool s11)) ⟨w.heap.size,1,none⟩ (.slice A11 n11 c11)) ⟨w.heap.size,2,none⟩ (.bool t11)) ⟨w.heap.size,3,none⟩ (.slice B11 m11 d11))
 have aG:=hJ (show sto w11 w.heap.size 0 [.bool s11,.slice A11 n11 c11,.bool t11,.slice B11 m11 d11]=x12 from aJ)
 have bK:=hJ (show BX 35 x12 w.heap.size #[.bool s11,.slice A11 n11 c11,.bool t11,.slice B11 m11 d11] by rw [←aG.out]; exact BX.put aA.out _ _)
 have bL:=hJ (show Below w.heap.size w x12 by rw [←aG.out]; exact below_sto (bt aB.out aI.out) aL.out _ _)
 have bM:=hJ (show PF x12 s11 A11 n11 c11 t11 B11 m11 d11 (muP p q r s) (muQ p q r s) by rw [←aG.out]; exact PF.sto bA.out aA.out rfl _ _)
 go_wp2
 clear bB bC bD bE bF bG bH bJ aJ
 exact bodyPost_ret (results_cell1 rfl _ _ _ _ _ _ _ rfl bK.out Tryz.underlying35 rfl F_size) rfl ⟨s11,A11,n11,c11,t11,B11,m11,d11,rfl,bM.out,bL.out⟩
theorem fda7_any (p q r s:Int) (s0:Bool) (A0:Option Addr) (n0 c0:Nat) (t0:Bool) (B0:Option Addr) (m0 d0:Nat) (s1:Bool) (A1:Option Addr) (n1 c1:Nat) (t1:Bool) (B1:Option Addr) (m1 d1:Nat) (s2:Bool) (A2:Option Addr) (n2 c2:Nat) (t2:Bool) (B2:Option Addr) (m2 d2:Nat) (s3:Bool) (A3:Option Addr) (n3 c3:Nat) (t3:Bool) (B3:Option Addr) (m3 d3:Nat) (s4:Bool) (A4:Option Addr) (n4 c4:Nat) (t4:Bool) (B4:Option Addr) (m4 d4:Nat) (s5:Bool) (A5:Option Addr) (n5 c5:Nat) (t5:Bool) (B5:Option Addr) (m5 d5:Nat) (s6:Bool) (A6:Option Addr) (n6 c6:Nat) (t6:Bool) (B6:Option Addr) (m6 d6:Nat) (gf gb:Nat) (w:World) (hf:BX 119 w gf #[.func (.func 102) #[] #[]]) (hb0:BX 198 w gb #[.bool s0,.slice A0 n0 c0,.bool t0,.slice B0 m0 d0,.bool s1,.slice A1 n1 c1,.bool t1,.slice B1 m1 d1,.bool s2,.slice A2 n2 c2,.bool t2,.slice B2 m2 d2,.bool s3,.slice A3 n3 c3,.bool t3,.slice B3 m3 d3,.bool s4,.slice A4 n4 c4,.bool t4,.slice B4 m4 d4,.bool s5,.slice A5 n5 c5,.bool t5,.slice B5 m5 d5,.bool s6,.slice A6 n6 c6,.bool t6,.slice B6 m6 d6]) (hx:PF w s2 A2 n2 c2 t2 B2 m2 d2 p q) (hy:PF w s5 A5 n5 c5 t5 B5 m5 d5 r s) (fx:Fr p q) (fy:Fr r s) :
  Calls Tryz.prog 145 #[.pointer (some ⟨gf,0,none⟩),.pointer (some ⟨gb,0,none⟩)] w (RetFE (adP p q (-r) s) (adQ p q (-r) s) (adC p q (-r) s) w):=by
 have HF:=hJ hf
 have HB:=hJ hb0
 have HX:=hJ hx
 have HY:=hJ hy
 have aC:=hJ fx
 have aD:=hJ fy
 clear hf hb0 hx hy fx fy
 obtain ⟨x1,aF⟩:=nmz (w.alloc (.cells #[.bool false,.slice none 0 0,.bool false,.slice none 0 0] 35))
 have aB:=hJ (show Below w.heap.size w x1 by rw [←aF]; exact ((Below.refl _ _).alloc (Nat.le_refl _) _))
 have aK:=hJ (show BX 35 x1 w.heap.size #[.bool false,.slice none 0 0,.bool false,.slice none 0 0] by rw [←aF]; exact (BX.at rfl))
 have aL:=hJ (show w.heap.size≤w.heap.size by omega)
 have aM:=hJ (BX.new HF.out aB.out)
 have aN:=aM.out.cell 0 rfl
 have aH:=hJ (BX.new HB.out aB.out)
 obtain ⟨aO,aR,aS,aT⟩:=aH.out.c4 8 9 10 11 rfl rfl rfl rfl
 obtain ⟨aU,aV,aW,aX⟩:=aH.out.c4 20 21 22 23 rfl rfl rfl rfl
 have aY:=hJ (PF.new HX.out aB.out)
 have aZ:=hJ (PF.new HY.out aB.out)
 go_enter Tryz.func145,Tryz.ntmps145
 go_wp2_with fail
 clear aF aN aO aR aS aT aU aV aW aX
 refine (fsub_any p q r s s2 t2 s5 t5 A2 B2 A5 B5 n2 c2 m2 d2 n5 c5 m5 d5 x1 aY.out aZ.out aC.out.1.1 aD.out.1.1 aC.out.2.1 aC.out.2.2 aD.out.2.1 aD.out.2.2).mono ?_
 rintro e w11 ⟨s11,A11,n11,c11,t11,B11,m11,d11,rfl,hr11,hb⟩
 have aI:=hJ hb
 have bA:=hJ hr11
 clear hb hr11
 have aA:=hJ (BX.new aK.out aI.out)
 have bB:=aA.out.frozen 0
 have bC:=aA.out.cell 0 rfl
 have bD:=aA.out.frozen 1
 have bE:=aA.out.cell 1 rfl
 have bF:=aA.out.frozen 2
 have bG:=aA.out.cell 2 rfl
 have bH:=aA.out.frozen 3
 have bJ:=aA.out.cell 3 rfl
 obtain ⟨x12,aJ⟩:=nmz (World.setCell (World.setCell (World.setCell (World.setCell w11 ⟨w.heap.size,0,none⟩ (.bool s11)) ⟨w.heap.size,1,none⟩ (.slice A11 n11 c11)) ⟨w.heap.size,2,none⟩ (.bool t11)) ⟨w.heap.size,3,none⟩ (.slice B11 m11 d11))
 have aG:=hJ (show sto w11 w.heap.size 0 [.bool s11,.slice A11 n11 c11,.bool t11,.slice B11 m11 d11]=x12 from aJ)
 have bK:=hJ (show BX 35 x12 w.heap.size #[.bool s11,.slice A11 n11 c11,.bool t11,.slice B11 m11 d11] by rw [←aG.out]; exact BX.put aA.out _ _)
 have bL:=hJ (show Below w.heap.size w x12 by rw [←aG.out]; exact below_sto (bt aB.out aI.out) aL.out _ _)
 have bM:=hJ (show PF x12 s11 A11 n11 c11 t11 B11 m11 d11 (adP p q (-r) s) (adQ p q (-r) s) by rw [←aG.out]; exact PF.sto bA.out aA.out rfl _ _)
 go_wp2
 clear bB bC bD bE bF bG bH bJ aJ
 exact bodyPost_ret (results_cell1 rfl _ _ _ _ _ _ _ rfl bK.out Tryz.underlying35 rfl F_size) rfl ⟨s11,A11,n11,c11,t11,B11,m11,d11,rfl,bM.out,bL.out⟩
theorem fdarea_any (p0 q0 p1 q1 p2 q2 p3 q3 p4 q4 p5 q5 P0 Q0 C0 P1 Q1 C1 P2 Q2 C2 P3 Q3 C3 P4 Q4 C4 P5 Q5 C5 P6 Q6 C6:Int) (s0:Bool) (A0:Option Addr) (n0 c0:Nat) (t0:Bool) (B0:Option Addr) (m0 d0:Nat) (s1:Bool) (A1:Option Addr) (n1 c1:Nat) (t1:Bool) (B1:Option Addr) (m1 d1:Nat) (s2:Bool) (A2:Option Addr) (n2 c2:Nat) (t2:Bool) (B2:Option Addr) (m2 d2:Nat) (s3:Bool) (A3:Option Addr) (n3 c3:Nat) (t3:Bool) (B3:Option Addr) (m3 d3:Nat) (s4:Bool) (A4:Option Addr) (n4 c4:Nat) (t4:Bool) (B4:Option Addr) (m4 d4:Nat) (s5:Bool) (A5:Option Addr) (n5 c5:Nat) (t5:Bool) (B5:Option Addr) (m5 d5:Nat) (w:World) (h0:PF w s0 A0 n0 c0 t0 B0 m0 d0 p0 q0) (h1:PF w s1 A1 n1 c1 t1 B1 m1 d1 p1 q1) (h2:PF w s2 A2 n2 c2 t2 B2 m2 d2 p2 q2) (h3:PF w s3 A3 n3 c3 t3 B3 m3 d3 p3 q3) (h4:PF w s4 A4 n4 c4 t4 B4 m4 d4 p4 q4) (h5:PF w s5 A5 n5 c5 t5 B5 m5 d5 p5 q5) (f0:Fr p0 q0) (f1:Fr p1 q1) (f2:Fr p2 q2) (f3:Fr p3 q3) (f4:Fr p4 q4) (f5:Fr p5 q5) (e0:adP p2 q2 (-p0) q0=P0∧adQ p2 q2 (-p0) q0=Q0∧adC p2 q2 (-p0) q0=C0) (e1:adP p5 q5 (-p1) q1=P1∧adQ p5 q5 (-p1) q1=Q1∧adC p5 q5 (-p1) q1=C1) (e2:muP P0 Q0 P1 Q1=P2∧muQ P0 Q0 P1 Q1=Q2∧muC P0 Q0 P1 Q1=C2) (e3:adP p3 q3 (-p1) q1=P3∧adQ p3 q3 (-p1) q1=Q3∧adC p3 q3 (-p1) q1=C3) (e4:adP p4 q4 (-p0) q0=P4∧adQ p4 q4 (-p0) q0=Q4∧adC p4 q4 (-p0) q0=C4) (e5:muP P3 Q3 P4 Q4=P5∧muQ P3 Q3 P4 Q4=Q5∧muC P3 Q3 P4 Q4=C5) (e6:adP P2 Q2 (-P5) Q5=P6∧adQ P2 Q2 (-P5) Q5=Q6∧adC P2 Q2 (-P5) Q5=C6) :
  Calls Tryz.prog 101 #[.func (.func 102) #[] #[],.func (.func 66) #[] #[],.agg #[.bool s0,.slice A0 n0 c0,.bool t0,.slice B0 m0 d0,.bool s1,.slice A1 n1 c1,.bool t1,.slice B1 m1 d1],.agg #[.bool s2,.slice A2 n2 c2,.bool t2,.slice B2 m2 d2,.bool s3,.slice A3 n3 c3,.bool t3,.slice B3 m3 d3],.agg #[.bool s4,.slice A4 n4 c4,.bool t4,.slice B4 m4 d4,.bool s5,.slice A5 n5 c5,.bool t5,.slice B5 m5 d5]] w (RetFE (feP (feV [C0,C1,C2,C3,C4,C5,C6]) P6) (feQ (feV [C0,C1,C2,C3,C4,C5,C6]) Q6) (feV [C0,C1,C2,C3,C4,C5,C6]) w):=by
 have fM:=hJ h0
 have eT:=hJ f0
 have fN:=hJ h1
 have eU:=hJ f1
 have hS:=hJ h2
 have fO:=hJ f2
 have hT:=hJ h3
 have fP:=hJ f3
 have hU:=hJ h4
 have fQ:=hJ f4
 have hV:=hJ h5
 have fR:=hJ f5
 have eM:=hJ e0
 have eN:=hJ e1
 have eO:=hJ e2
 have eP:=hJ e3
 have eQ:=hJ e4
 have eR:=hJ e5
 have eY:=hJ e6
 clear h0 f0 h1 f1 h2 f2 h3 f3 h4 f4 h5 f5 e0 e1 e2 e3 e4 e5 e6
 have fS:=hJ (show Fr P0 Q0 by rw [←eM.out.1,←eM.out.2.1]; exact fr_ad fO.out (fr_neg eT.out))
 have fT:=hJ (show Fr P1 Q1 by rw [←eN.out.1,←eN.out.2.1]; exact fr_ad fR.out (fr_neg eU.out))
 have hW:=hJ (show Fr P2 Q2 by rw [←eO.out.1,←eO.out.2.1]; exact fr_mu fS.out fT.out)
 have fU:=hJ (show Fr P3 Q3 by rw [←eP.out.1,←eP.out.2.1]; exact fr_ad fP.out (fr_neg eU.out))
 have fV:=hJ (show Fr P4 Q4 by rw [←eQ.out.1,←eQ.out.2.1]; exact fr_ad fQ.out (fr_neg eT.out))
 have hX:=hJ (show Fr P5 Q5 by rw [←eR.out.1,←eR.out.2.1]; exact fr_mu fU.out fV.out)
 have hY:=hJ (PF.zero w)
 obtain ⟨x1,eA⟩:=nmz ((((((w.alloc (.cells #[.func (.func 102) #[] #[]] 119)).alloc (.cells #[.func (.func 66) #[] #[]] 119)).alloc (.cells #[.bool s0,.slice A0 n0 c0,.bool t0,.slice B0 m0 d0,.bool s1,.slice A1 n1 c1,.bool t1,.slice B1 m1 d1] 101)).alloc (.cells #[.bool s2,.slice A2 n2 c2,.bool t2,.slice B2 m2 d2,.bool s3,.slice A3 n3 c3,.bool t3,.slice B3 m3 d3] 101)).alloc (.cells #[.bool s4,.slice A4 n4 c4,.bool t4,.slice B4 m4 d4,.bool s5,.slice A5 n5 c5,.bool t5,.slice B5 m5 d5] 101)).alloc (.cells #[.bool false,.slice none 0 0,.bool false,.slice none 0 0] 35))
 have dQ:=hJ (show Below w.heap.size w x1 by rw [←eA]; exact (((((((Below.refl _ _).alloc (Nat.le_refl _) _).alloc (by simp only [World.size_alloc]; omega) _).alloc (by simp only [World.size_alloc]; omega) _).alloc (by simp only [World.size_alloc]; omega) _).alloc (by simp only [World.size_alloc]; omega) _).alloc (by simp only [World.size_alloc]; omega) _))
 have eS:=hJ (show BX 119 x1 w.heap.size #[.func (.func 102) #[] #[]] by rw [←eA]; exact ((((((BX.at rfl).alloc _).alloc _).alloc _).alloc _).alloc _))
 have fW:=hJ (show BX 119 x1 (w.heap.size+1) #[.func (.func 66) #[] #[]] by rw [←eA]; exact (((((BX.at (by simp only [World.size_alloc])).alloc _).alloc _).alloc _).alloc _))
 have eV:=hJ (show BX 101 x1 (w.heap.size+2) #[.bool s0,.slice A0 n0 c0,.bool t0,.slice B0 m0 d0,.bool s1,.slice A1 n1 c1,.bool t1,.slice B1 m1 d1] by rw [←eA]; exact ((((BX.at (by simp only [World.size_alloc])).alloc _).alloc _).alloc _))
 have fX:=hJ (show BX 101 x1 (w.heap.size+3) #[.bool s2,.slice A2 n2 c2,.bool t2,.slice B2 m2 d2,.bool s3,.slice A3 n3 c3,.bool t3,.slice B3 m3 d3] by rw [←eA]; exact (((BX.at (by simp only [World.size_alloc])).alloc _).alloc _))
 have fY:=hJ (show BX 101 x1 (w.heap.size+4) #[.bool s4,.slice A4 n4 c4,.bool t4,.slice B4 m4 d4,.bool s5,.slice A5 n5 c5,.bool t5,.slice B5 m5 d5] by rw [←eA]; exact ((BX.at (by simp only [World.size_alloc])).alloc _))
 have eB:=hJ (show BX 35 x1 (w.heap.size+5) #[.bool false,.slice none 0 0,.bool false,.slice none 0 0] by rw [←eA]; exact (BX.at (by simp only [World.size_alloc])))
 have eC:=hJ (show w.heap.size≤w.heap.size+5 by omega)
 obtain ⟨x2,eW⟩:=nmz ((x1.alloc (.cells #[.bool false,.slice none 0 0,.bool false,.slice none 0 0,.bool false,.slice none 0 0,.bool false,.slice none 0 0,.bool false,.slice none 0 0,.bool false,.slice none 0 0,.bool false,.slice none 0 0,.bool false,.slice none 0 0,.bool false,.slice none 0 0,.bool false,.slice none 0 0,.bool false,.slice none 0 0,.bool false,.slice none 0 0,.bool false,.slice none 0 0,.bool false,.slice none 0 0] 198)).alloc (.cells #[.func (.func 139) #[] #[.pointer (some ⟨w.heap.size,0,none⟩),.pointer (some ⟨w.heap.size+3,0,none⟩),.pointer (some ⟨w.heap.size+2,0,none⟩)],.func (.func 140) #[] #[.pointer (some ⟨w.heap.size,0,none⟩),.pointer (some ⟨w.heap.size+4,0,none⟩),.pointer (some ⟨w.heap.size+2,0,none⟩)],.func (.func 141) #[] #[.pointer (some ⟨w.heap.size+1,0,none⟩),.pointer (some ⟨x1.heap.size,0,none⟩)],.func (.func 142) #[] #[.pointer (some ⟨w.heap.size,0,none⟩),.pointer (some ⟨w.heap.size+3,0,none⟩),.pointer (some ⟨w.heap.size+2,0,none⟩)],.func (.func 143) #[] #[.pointer (some ⟨w.heap.size,0,none⟩),.pointer (some ⟨w.heap.size+4,0,none⟩),.pointer (some ⟨w.heap.size+2,0,none⟩)],.func (.func 144) #[] #[.pointer (some ⟨w.heap.size+1,0,none⟩),.pointer (some ⟨x1.heap.size,0,none⟩)],.func (.func 145) #[] #[.pointer (some ⟨w.heap.size,0,none⟩),.pointer (some ⟨x1.heap.size,0,none⟩)]] 200))
 have fZ:=hJ (show Below x1.heap.size x1 x2 by rw [←eW]; exact (((Below.refl _ _).alloc (Nat.le_refl _) _).alloc (by simp only [World.size_alloc]; omega) _))
 have hZ:=hJ (show BX 198 x2 x1.heap.size #[.bool false,.slice none 0 0,.bool false,.slice none 0 0,.bool false,.slice none 0 0,.bool false,.slice none 0 0,.bool false,.slice none 0 0,.bool false,.slice none 0 0,.bool false,.slice none 0 0,.bool false,.slice none 0 0,.bool false,.slice none 0 0,.bool false,.slice none 0 0,.bool false,.slice none 0 0,.bool false,.slice none 0 0,.bool false,.slice none 0 0,.bool false,.slice none 0 0] by rw [←eW]; exact ((BX.at rfl).alloc _))
 have cN:=hJ (show x1.heap.size≤x1.heap.size by omega)
 have eX:=hJ (show BX 200 x2 (x1.heap.size+1) #[.func (.func 139) #[] #[.pointer (some ⟨w.heap.size,0,none⟩),.pointer (some ⟨w.heap.size+3,0,none⟩),.pointer (some ⟨w.heap.size+2,0,none⟩)],.func (.func 140) #[] #[.pointer (some ⟨w.heap.size,0,none⟩),.pointer (some ⟨w.heap.size+4,0,none⟩),.pointer (some ⟨w.heap.size+2,0,none⟩)],.func (.func 141) #[] #[.pointer (some ⟨w.heap.size+1,0,none⟩),.pointer (some ⟨x1.heap.size,0,none⟩)],.func (.func 142) #[] #[.pointer (some ⟨w.heap.size,0,none⟩),.pointer (some ⟨w.heap.size+3,0,none⟩),.pointer (some ⟨w.heap.size+2,0,none⟩)],.func (.func 143) #[] #[.pointer (some ⟨w.heap.size,0,none⟩),.pointer (some ⟨w.heap.size+4,0,none⟩),.pointer (some ⟨w.heap.size+2,0,none⟩)],.func (.func 144) #[] #[.pointer (some ⟨w.heap.size+1,0,none⟩),.pointer (some ⟨x1.heap.size,0,none⟩)],.func (.func 145) #[] #[.pointer (some ⟨w.heap.size,0,none⟩),.pointer (some ⟨x1.heap.size,0,none⟩)]] by rw [←eW]; exact (BX.at (by simp only [World.size_alloc])))
 obtain ⟨iA,iB,iC,iD⟩:=eX.out.q4 0 1 2 3
 have iE:=eX.out.cell 4 rfl
 have iF:=eX.out.cell 5 rfl
 have iG:=eX.out.cell 6 rfl
 have iH:=hJ (bt dQ.out fZ.out)
 have eD:=hJ (PF.new hY.out iH.out)
 go_enter Tryz.func101,Tryz.ntmps101
 go_wp2_with fail
 clear eA eW iA iB iC iD iE iF iG
 go_loopw [27] (fun tv wr=>∃ (i:Nat) (aO:Bool) (aR:Option Addr) (aS:Nat) (aT:Nat) (aU:Bool) (aV:Option Addr) (aW:Nat) (aX:Nat) (aY:Bool) (aZ:Option Addr) (bA:Nat) (bB:Nat) (bC:Bool) (bD:Option Addr) (bE:Nat) (bF:Nat) (bG:Bool) (bH:Option Addr) (bJ:Nat) (bK:Nat) (bL:Bool) (bM:Option Addr) (bN:Nat) (bO:Nat) (bP:Bool) (bQ:Option Addr) (bR:Nat) (bS:Nat) (bT:Bool) (bU:Option Addr) (bV:Nat) (bW:Nat) (bX:Bool) (bY:Option Addr) (bZ:Nat) (cA:Nat) (cB:Bool) (cC:Option Addr) (cD:Nat) (cE:Nat) (cF:Bool) (cG:Option Addr) (cH:Nat) (cI:Nat) (cJ:Bool) (cK:Option Addr) (cL:Nat) (cM:Nat) (aF:Bool) (aG:Option Addr) (aH:Nat) (aI:Nat) (aJ:Bool) (aK:Option Addr) (aL:Nat) (aM:Nat) (y0_10:Int) (z0_10:Int) (y1_10:Int) (z1_10:Int) (y2_10:Int) (z2_10:Int) (y3_10:Int) (z3_10:Int) (y4_10:Int) (z4_10:Int) (y5_10:Int) (z5_10:Int) (y6_10:Int) (z6_10:Int),i≤7∧tv=.int .i64 (i:Int)∧BX 198 wr x1.heap.size #[.bool aO,.slice aR aS aT,.bool aU,.slice aV aW aX,.bool aY,.slice aZ bA bB,.bool bC,.slice bD bE bF,.bool bG,.slice bH bJ bK,.bool bL,.slice bM bN bO,.bool bP,.slice bQ bR bS,.bool bT,.slice bU bV bW,.bool bX,.slice bY bZ cA,.bool cB,.slice cC cD cE,.bool cF,.slice cG cH cI,.bool cJ,.slice cK cL cM,.bool aF,.slice aG aH aI,.bool aJ,.slice aK aL aM]∧PF wr aO aR aS aT aU aV aW aX y0_10 z0_10∧PF wr aY aZ bA bB bC bD bE bF y1_10 z1_10∧PF wr bG bH bJ bK bL bM bN bO y2_10 z2_10∧PF wr bP bQ bR bS bT bU bV bW y3_10 z3_10∧PF wr bX bY bZ cA cB cC cD cE y4_10 z4_10∧PF wr cF cG cH cI cJ cK cL cM y5_10 z5_10∧PF wr aF aG aH aI aJ aK aL aM y6_10 z6_10∧Hid ((0 < i→y0_10=P0∧z0_10=Q0∧C0=0)∧(1 < i→y1_10=P1∧z1_10=Q1∧C1=0)∧(2 < i→y2_10=P2∧z2_10=Q2∧C2=0)∧(3 < i→y3_10=P3∧z3_10=Q3∧C3=0)∧(4 < i→y4_10=P4∧z4_10=Q4∧C4=0)∧(5 < i→y5_10=P5∧z5_10=Q5∧C5=0)∧(6 < i→y6_10=P6∧z6_10=Q6∧C6=0))∧Below x1.heap.size x1 wr) (fun tv _=>7 - (intOf tv).toNat)
 case atStart=>exact ⟨0,false,none,0,0,false,none,0,0,false,none,0,0,false,none,0,0,false,none,0,0,false,none,0,0,false,none,0,0,false,none,0,0,false,none,0,0,false,none,0,0,false,none,0,0,false,none,0,0,false,none,0,0,false,none,0,0,0,1,0,1,0,1,0,1,0,1,0,1,0,1,by omega,rfl,hZ.out,eD.out,eD.out,eD.out,eD.out,eD.out,eD.out,eD.out,hJ (⟨fun h=>absurd h (by decide),fun h=>absurd h (by decide),fun h=>absurd h (by decide),fun h=>absurd h (by decide),fun h=>absurd h (by decide),fun h=>absurd h (by decide),fun h=>absurd h (by decide)⟩),fZ.out⟩
 case round =>
  obtain ⟨i10,aO,aR,aS,aT,aU,aV,aW,aX,aY,aZ,bA,bB,bC,bD,bE,bF,bG,bH,bJ,bK,bL,bM,bN,bO,bP,bQ,bR,bS,bT,bU,bV,bW,bX,bY,bZ,cA,cB,cC,cD,cE,cF,cG,cH,cI,cJ,cK,cL,cM,aF,aG,aH,aI,aJ,aK,aL,aM,y0_10,z0_10,y1_10,z1_10,y2_10,z2_10,y3_10,z3_10,y4_10,z4_10,y5_10,z5_10,y6_10,z6_10,hi,rfl,hz10_0,hz10_1,hz10_2,hz10_3,hz10_4,hz10_5,hz10_6,hz10_7,aB,hbel⟩:=hrel
  obtain ⟨wl10,rfl⟩:∃ W:World,W=wr:=⟨_,rfl⟩
  have aD:=hJ hbel
  have cO:=hJ hz10_0
  have eE:=hJ hz10_1
  have eF:=hJ hz10_2
  have eG:=hJ hz10_3
  have eH:=hJ hz10_4
  have eI:=hJ hz10_5
  have eJ:=hJ hz10_6
  have eK:=hJ hz10_7
  clear hbel hz10_0 hz10_1 hz10_2 hz10_3 hz10_4 hz10_5 hz10_6 hz10_7
  have cP:=hJ (bt dQ.out aD.out)
  have hcs:i10=0∨i10=1∨i10=2∨i10=3∨i10=4∨i10=5∨i10=6∨i10=7:=by omega
  clear hi
  rcases hcs with rfl | rfl | rfl | rfl | rfl | rfl | rfl | rfl
  ·(try rw [show ((0:Nat):Int)=0 from rfl])
   have hix:∀ wx,(Instr.index 200 (.agg #[.func (.func 139) #[] #[.pointer (some ⟨w.heap.size,0,none⟩),.pointer (some ⟨w.heap.size+3,0,none⟩),.pointer (some ⟨w.heap.size+2,0,none⟩)],.func (.func 140) #[] #[.pointer (some ⟨w.heap.size,0,none⟩),.pointer (some ⟨w.heap.size+4,0,none⟩),.pointer (some ⟨w.heap.size+2,0,none⟩)],.func (.func 141) #[] #[.pointer (some ⟨w.heap.size+1,0,none⟩),.pointer (some ⟨x1.heap.size,0,none⟩)],.func (.func 142) #[] #[.pointer (some ⟨w.heap.size,0,none⟩),.pointer (some ⟨w.heap.size+3,0,none⟩),.pointer (some ⟨w.heap.size+2,0,none⟩)],.func (.func 143) #[] #[.pointer (some ⟨w.heap.size,0,none⟩),.pointer (some ⟨w.heap.size+4,0,none⟩),.pointer (some ⟨w.heap.size+2,0,none⟩)],.func (.func 144) #[] #[.pointer (some ⟨w.heap.size+1,0,none⟩),.pointer (some ⟨x1.heap.size,0,none⟩)],.func (.func 145) #[] #[.pointer (some ⟨w.heap.size,0,none⟩),.pointer (some ⟨x1.heap.size,0,none⟩)]]) (.int .i64 0)).run Tryz.prog wx=.ok (.func (.func 139) #[] #[.pointer (some ⟨w.heap.size,0,none⟩),.pointer (some ⟨w.heap.size+3,0,none⟩),.pointer (some ⟨w.heap.size+2,0,none⟩)]) wx:=fun wx=>gx7_0 wx
   have dR:=hJ (BX.new eS.out aD.out)
   have eZ:=hJ (BX.new fX.out aD.out)
   have eL:=hJ (BX.new eV.out aD.out)
   have iI:=hJ (PF.new hS.out cP.out)
   have fA:=hJ (PF.new fM.out cP.out)
   go_wp2_with fail
   clear hix
   refine (fda1_any p2 q2 p0 q0 s2 A2 n2 c2 t2 B2 m2 d2 s3 A3 n3 c3 t3 B3 m3 d3 s0 A0 n0 c0 t0 B0 m0 d0 s1 A1 n1 c1 t1 B1 m1 d1 w.heap.size (w.heap.size+3) (w.heap.size+2) wl10 dR.out eZ.out eL.out iI.out fA.out fO.out eT.out).mono ?_
   rw [eM.out.1,eM.out.2.1,eM.out.2.2]
   rintro e w11 ⟨s11,A11,n11,c11,t11,B11,m11,d11,rfl,hr11,hb⟩
   have cU:=hJ hb
   have iJ:=hJ hr11
   clear hb hr11
   by_cases hc:C0=0
   ·obtain rfl:=hc
    have aA:=hJ (BX.new cO.out cU.out)
    have iK:=aA.out.frozen 0
    have iL:=aA.out.cell 0 rfl
    have iM:=aA.out.frozen 1
    have iN:=aA.out.cell 1 rfl
    have iO:=aA.out.frozen 2
    have iP:=aA.out.cell 2 rfl
    have iQ:=aA.out.frozen 3
    have iR:=aA.out.cell 3 rfl
    obtain ⟨x12,gA⟩:=nmz (World.setCell (World.setCell (World.setCell (World.setCell w11 ⟨x1.heap.size,0,none⟩ (.bool s11)) ⟨x1.heap.size,1,none⟩ (.slice A11 n11 c11)) ⟨x1.heap.size,2,none⟩ (.bool t11)) ⟨x1.heap.size,3,none⟩ (.slice B11 m11 d11))
    have dS:=hJ (show sto w11 x1.heap.size 0 [.bool s11,.slice A11 n11 c11,.bool t11,.slice B11 m11 d11]=x12 from gA)
    have iS:=hJ (show BX 198 x12 x1.heap.size #[.bool s11,.slice A11 n11 c11,.bool t11,.slice B11 m11 d11,.bool aY,.slice aZ bA bB,.bool bC,.slice bD bE bF,.bool bG,.slice bH bJ bK,.bool bL,.slice bM bN bO,.bool bP,.slice bQ bR bS,.bool bT,.slice bU bV bW,.bool bX,.slice bY bZ cA,.bool cB,.slice cC cD cE,.bool cF,.slice cG cH cI,.bool cJ,.slice cK cL cM,.bool aF,.slice aG aH aI,.bool aJ,.slice aK aL aM] by rw [←dS.out]; exact BX.put aA.out _ _)
    have iT:=hJ (show PF x12 s11 A11 n11 c11 t11 B11 m11 d11 P0 Q0 by rw [←dS.out]; exact PF.sto iJ.out aA.out rfl _ _)
    have cV:=hJ (PF.new eF.out cU.out)
    have cW:=hJ (show PF x12 aY aZ bA bB bC bD bE bF y1_10 z1_10 by rw [←dS.out]; exact PF.sto cV.out aA.out rfl _ _)
    have cX:=hJ (PF.new eG.out cU.out)
    have cY:=hJ (show PF x12 bG bH bJ bK bL bM bN bO y2_10 z2_10 by rw [←dS.out]; exact PF.sto cX.out aA.out rfl _ _)
    have cZ:=hJ (PF.new eH.out cU.out)
    have dA:=hJ (show PF x12 bP bQ bR bS bT bU bV bW y3_10 z3_10 by rw [←dS.out]; exact PF.sto cZ.out aA.out rfl _ _)
    have dB:=hJ (PF.new eI.out cU.out)
    have dD:=hJ (show PF x12 bX bY bZ cA cB cC cD cE y4_10 z4_10 by rw [←dS.out]; exact PF.sto dB.out aA.out rfl _ _)
    have dE:=hJ (PF.new eJ.out cU.out)
    have dF:=hJ (show PF x12 cF cG cH cI cJ cK cL cM y5_10 z5_10 by rw [←dS.out]; exact PF.sto dE.out aA.out rfl _ _)
    have cQ:=hJ (PF.new eK.out cU.out)
    have dG:=hJ (show PF x12 aF aG aH aI aJ aK aL aM y6_10 z6_10 by rw [←dS.out]; exact PF.sto cQ.out aA.out rfl _ _)
    have aN:=hJ (show Below x1.heap.size x1 x12 by rw [←dS.out]; exact below_sto (bt aD.out cU.out) cN.out _ _)
    go_wp2_with fail
    clear iK iL iM iN iO iP iQ iR gA
    go_roundw
    case rel=>exact ⟨0+1,s11,A11,n11,c11,t11,B11,m11,d11,aY,aZ,bA,bB,bC,bD,bE,bF,bG,bH,bJ,bK,bL,bM,bN,bO,bP,bQ,bR,bS,bT,bU,bV,bW,bX,bY,bZ,cA,cB,cC,cD,cE,cF,cG,cH,cI,cJ,cK,cL,cM,aF,aG,aH,aI,aJ,aK,aL,aM,P0,Q0,y1_10,z1_10,y2_10,z2_10,y3_10,z3_10,y4_10,z4_10,y5_10,z5_10,y6_10,z6_10,by omega,by go_num,iS.out,iT.out,cW.out,cY.out,dA.out,dD.out,dF.out,dG.out,hJ (⟨fun _=>⟨rfl,rfl,by first | rfl | trivial⟩,fun h=>absurd h (by decide),fun h=>absurd h (by decide),fun h=>absurd h (by decide),fun h=>absurd h (by decide),fun h=>absurd h (by decide),fun h=>absurd h (by decide)⟩),aN.out⟩
    case measure=>simp [intOf] <;> omega
   have hcz:(C0 == 0)=false:=by simp [hc]
   have HV:=hJ (show feV [C0,C1,C2,C3,C4,C5,C6]=C0 from feV_n hc)
   have HN:=hJ hc
   clear hc
   have aA:=hJ (BX.new cO.out cU.out)
   have iU:=aA.out.frozen 0
   have iV:=aA.out.cell 0 rfl
   have iW:=aA.out.frozen 1
   have iX:=aA.out.cell 1 rfl
   have iY:=aA.out.frozen 2
   have iZ:=aA.out.cell 2 rfl
   have jA:=aA.out.frozen 3
   have jB:=aA.out.cell 3 rfl
   obtain ⟨x13,gB⟩:=nmz (World.setCell (World.setCell (World.setCell (World.setCell w11 ⟨x1.heap.size,0,none⟩ (.bool s11)) ⟨x1.heap.size,1,none⟩ (.slice A11 n11 c11)) ⟨x1.heap.size,2,none⟩ (.bool t11)) ⟨x1.heap.size,3,none⟩ (.slice B11 m11 d11))
   have gC:=hJ (show sto w11 x1.heap.size 0 [.bool s11,.slice A11 n11 c11,.bool t11,.slice B11 m11 d11]=x13 from gB)
   obtain ⟨x14,fB⟩:=nmz (x13.alloc (.cells #[.bool false,.slice none 0 0,.bool false,.slice none 0 0] 35))
   have gD:=hJ (show Below x13.heap.size x13 x14 by rw [←fB]; exact ((Below.refl _ _).alloc (Nat.le_refl _) _))
   have jC:=hJ (show BX 35 x14 x13.heap.size #[.bool false,.slice none 0 0,.bool false,.slice none 0 0] by rw [←fB]; exact (BX.at rfl))
   obtain ⟨jD,jE,jF,jG⟩:=jC.out.c4 0 1 2 3 rfl rfl rfl rfl
   have aN:=hJ (show Below x1.heap.size x1 x13 by rw [←gC.out]; exact below_sto (bt aD.out cU.out) cN.out _ _)
   have cR:=hJ (bt aN.out gD.out)
   have aC:=hJ (BX.new eB.out cR.out)
   have jH:=aC.out.frozen 0
   have jI:=aC.out.cell 0 rfl
   have jJ:=aC.out.frozen 1
   have jK:=aC.out.cell 1 rfl
   have jL:=aC.out.frozen 2
   have jM:=aC.out.cell 2 rfl
   have jN:=aC.out.frozen 3
   have jO:=aC.out.cell 3 rfl
   obtain ⟨x19,gE⟩:=nmz (World.setCell (World.setCell (World.setCell (World.setCell x14 ⟨w.heap.size+5,0,none⟩ (.bool false)) ⟨w.heap.size+5,1,none⟩ (.slice none 0 0)) ⟨w.heap.size+5,2,none⟩ (.bool false)) ⟨w.heap.size+5,3,none⟩ (.slice none 0 0))
   have gF:=hJ (show sto x14 (w.heap.size+5) 0 [.bool false,.slice none 0 0,.bool false,.slice none 0 0]=x19 from gE)
   have jP:=hJ (show BX 35 x19 (w.heap.size+5) #[.bool false,.slice none 0 0,.bool false,.slice none 0 0] by rw [←gF.out]; exact BX.put aC.out _ _)
   have cS:=hJ (show Below w.heap.size w x13 by rw [←gC.out]; exact below_sto (bt cP.out cU.out) (Nat.le_trans (dQ.out).size cN.out) _ _)
   have cT:=hJ (show Below w.heap.size w x19 by rw [←gF.out]; exact below_sto (bt cS.out gD.out) eC.out _ _)
   go_wp2
   clear iU iV iW iX iY iZ jA jB gB fB jD jE jF jG jH jI jJ jK jL jM jN jO gE
   exact bodyPost_ret (results_cell1 rfl _ _ _ _ _ _ _ rfl jP.out Tryz.underlying35 rfl F_size) rfl (by rw [HV.out,feP,feQ,if_neg HN.out,if_neg HN.out]; exact ⟨false,none,0,0,false,none,0,0,rfl,PF.zero _,cT.out⟩)
  ·(try rw [show ((1:Nat):Int)=1 from rfl])
   obtain rfl:P0=y0_10:=(aB.out.1 (by decide)).1.symm
   obtain rfl:Q0=z0_10:=(aB.out.1 (by decide)).2.1.symm
   obtain rfl:C0=0:=(aB.out.1 (by decide)).2.2
   have hix:∀ wx,(Instr.index 200 (.agg #[.func (.func 139) #[] #[.pointer (some ⟨w.heap.size,0,none⟩),.pointer (some ⟨w.heap.size+3,0,none⟩),.pointer (some ⟨w.heap.size+2,0,none⟩)],.func (.func 140) #[] #[.pointer (some ⟨w.heap.size,0,none⟩),.pointer (some ⟨w.heap.size+4,0,none⟩),.pointer (some ⟨w.heap.size+2,0,none⟩)],.func (.func 141) #[] #[.pointer (some ⟨w.heap.size+1,0,none⟩),.pointer (some ⟨x1.heap.size,0,none⟩)],.func (.func 142) #[] #[.pointer (some ⟨w.heap.size,0,none⟩),.pointer (some ⟨w.heap.size+3,0,none⟩),.pointer (some ⟨w.heap.size+2,0,none⟩)],.func (.func 143) #[] #[.pointer (some ⟨w.heap.size,0,none⟩),.pointer (some ⟨w.heap.size+4,0,none⟩),.pointer (some ⟨w.heap.size+2,0,none⟩)],.func (.func 144) #[] #[.pointer (some ⟨w.heap.size+1,0,none⟩),.pointer (some ⟨x1.heap.size,0,none⟩)],.func (.func 145) #[] #[.pointer (some ⟨w.heap.size,0,none⟩),.pointer (some ⟨x1.heap.size,0,none⟩)]]) (.int .i64 1)).run Tryz.prog wx=.ok (.func (.func 140) #[] #[.pointer (some ⟨w.heap.size,0,none⟩),.pointer (some ⟨w.heap.size+4,0,none⟩),.pointer (some ⟨w.heap.size+2,0,none⟩)]) wx:=fun wx=>gx7_1 wx
   have dR:=hJ (BX.new eS.out aD.out)
   have fC:=hJ (BX.new fY.out aD.out)
   have eL:=hJ (BX.new eV.out aD.out)
   have jQ:=hJ (PF.new hV.out cP.out)
   have fD:=hJ (PF.new fN.out cP.out)
   go_wp2_with fail
   clear hix
   refine (fda2_any p5 q5 p1 q1 s4 A4 n4 c4 t4 B4 m4 d4 s5 A5 n5 c5 t5 B5 m5 d5 s0 A0 n0 c0 t0 B0 m0 d0 s1 A1 n1 c1 t1 B1 m1 d1 w.heap.size (w.heap.size+4) (w.heap.size+2) wl10 dR.out fC.out eL.out jQ.out fD.out fR.out eU.out).mono ?_
   rw [eN.out.1,eN.out.2.1,eN.out.2.2]
   rintro e w20 ⟨s12,A12,n12,c12,t12,B12,m12,d12,rfl,hr12,hb⟩
   have dH:=hJ hb
   have jR:=hJ hr12
   clear hb hr12
   by_cases hc:C1=0
   ·obtain rfl:=hc
    have aA:=hJ (BX.new cO.out dH.out)
    have jS:=aA.out.frozen 4
    have jT:=aA.out.cell 4 rfl
    have jU:=aA.out.frozen 5
    have jV:=aA.out.cell 5 rfl
    have jW:=aA.out.frozen 6
    have jX:=aA.out.cell 6 rfl
    have jY:=aA.out.frozen 7
    have jZ:=aA.out.cell 7 rfl
    obtain ⟨x21,gG⟩:=nmz (World.setCell (World.setCell (World.setCell (World.setCell w20 ⟨x1.heap.size,4,none⟩ (.bool s12)) ⟨x1.heap.size,5,none⟩ (.slice A12 n12 c12)) ⟨x1.heap.size,6,none⟩ (.bool t12)) ⟨x1.heap.size,7,none⟩ (.slice B12 m12 d12))
    have dT:=hJ (show sto w20 x1.heap.size 4 [.bool s12,.slice A12 n12 c12,.bool t12,.slice B12 m12 d12]=x21 from gG)
    have kA:=hJ (show BX 198 x21 x1.heap.size #[.bool aO,.slice aR aS aT,.bool aU,.slice aV aW aX,.bool s12,.slice A12 n12 c12,.bool t12,.slice B12 m12 d12,.bool bG,.slice bH bJ bK,.bool bL,.slice bM bN bO,.bool bP,.slice bQ bR bS,.bool bT,.slice bU bV bW,.bool bX,.slice bY bZ cA,.bool cB,.slice cC cD cE,.bool cF,.slice cG cH cI,.bool cJ,.slice cK cL cM,.bool aF,.slice aG aH aI,.bool aJ,.slice aK aL aM] by rw [←dT.out]; exact BX.put aA.out _ _)
    have dI:=hJ (PF.new eE.out dH.out)
    have dJ:=hJ (show PF x21 aO aR aS aT aU aV aW aX P0 Q0 by rw [←dT.out]; exact PF.sto dI.out aA.out rfl _ _)
    have kB:=hJ (show PF x21 s12 A12 n12 c12 t12 B12 m12 d12 P1 Q1 by rw [←dT.out]; exact PF.sto jR.out aA.out rfl _ _)
    have cX:=hJ (PF.new eG.out dH.out)
    have cY:=hJ (show PF x21 bG bH bJ bK bL bM bN bO y2_10 z2_10 by rw [←dT.out]; exact PF.sto cX.out aA.out rfl _ _)
    have cZ:=hJ (PF.new eH.out dH.out)
    have dA:=hJ (show PF x21 bP bQ bR bS bT bU bV bW y3_10 z3_10 by rw [←dT.out]; exact PF.sto cZ.out aA.out rfl _ _)
    have dB:=hJ (PF.new eI.out dH.out)
    have dD:=hJ (show PF x21 bX bY bZ cA cB cC cD cE y4_10 z4_10 by rw [←dT.out]; exact PF.sto dB.out aA.out rfl _ _)
    have dE:=hJ (PF.new eJ.out dH.out)
    have dF:=hJ (show PF x21 cF cG cH cI cJ cK cL cM y5_10 z5_10 by rw [←dT.out]; exact PF.sto dE.out aA.out rfl _ _)
    have cQ:=hJ (PF.new eK.out dH.out)
    have dG:=hJ (show PF x21 aF aG aH aI aJ aK aL aM y6_10 z6_10 by rw [←dT.out]; exact PF.sto cQ.out aA.out rfl _ _)
    have aN:=hJ (show Below x1.heap.size x1 x21 by rw [←dT.out]; exact below_sto (bt aD.out dH.out) cN.out _ _)
    go_wp2_with fail
    clear jS jT jU jV jW jX jY jZ gG
    go_roundw
    case rel=>exact ⟨1+1,aO,aR,aS,aT,aU,aV,aW,aX,s12,A12,n12,c12,t12,B12,m12,d12,bG,bH,bJ,bK,bL,bM,bN,bO,bP,bQ,bR,bS,bT,bU,bV,bW,bX,bY,bZ,cA,cB,cC,cD,cE,cF,cG,cH,cI,cJ,cK,cL,cM,aF,aG,aH,aI,aJ,aK,aL,aM,P0,Q0,P1,Q1,y2_10,z2_10,y3_10,z3_10,y4_10,z4_10,y5_10,z5_10,y6_10,z6_10,by omega,by go_num,kA.out,dJ.out,kB.out,cY.out,dA.out,dD.out,dF.out,dG.out,hJ (⟨fun _=>⟨rfl,rfl,by first | rfl | trivial⟩,fun _=>⟨rfl,rfl,by first | rfl | trivial⟩,fun h=>absurd h (by decide),fun h=>absurd h (by decide),fun h=>absurd h (by decide),fun h=>absurd h (by decide),fun h=>absurd h (by decide)⟩),aN.out⟩
    case measure=>simp [intOf] <;> omega
   have hcz:(C1 == 0)=false:=by simp [hc]
   have HV:=hJ (show feV [0,C1,C2,C3,C4,C5,C6]=C1 from feV_n hc)
   have HN:=hJ hc
   clear hc
   have aA:=hJ (BX.new cO.out dH.out)
   have kC:=aA.out.frozen 4
   have kD:=aA.out.cell 4 rfl
   have kE:=aA.out.frozen 5
   have kF:=aA.out.cell 5 rfl
   have kG:=aA.out.frozen 6
   have kH:=aA.out.cell 6 rfl
   have kI:=aA.out.frozen 7
   have kJ:=aA.out.cell 7 rfl
   obtain ⟨x22,gH⟩:=nmz (World.setCell (World.setCell (World.setCell (World.setCell w20 ⟨x1.heap.size,4,none⟩ (.bool s12)) ⟨x1.heap.size,5,none⟩ (.slice A12 n12 c12)) ⟨x1.heap.size,6,none⟩ (.bool t12)) ⟨x1.heap.size,7,none⟩ (.slice B12 m12 d12))
   have gI:=hJ (show sto w20 x1.heap.size 4 [.bool s12,.slice A12 n12 c12,.bool t12,.slice B12 m12 d12]=x22 from gH)
   obtain ⟨x23,fE⟩:=nmz (x22.alloc (.cells #[.bool false,.slice none 0 0,.bool false,.slice none 0 0] 35))
   have gJ:=hJ (show Below x22.heap.size x22 x23 by rw [←fE]; exact ((Below.refl _ _).alloc (Nat.le_refl _) _))
   have kK:=hJ (show BX 35 x23 x22.heap.size #[.bool false,.slice none 0 0,.bool false,.slice none 0 0] by rw [←fE]; exact (BX.at rfl))
   obtain ⟨kL,kM,kN,kO⟩:=kK.out.c4 0 1 2 3 rfl rfl rfl rfl
   have aN:=hJ (show Below x1.heap.size x1 x22 by rw [←gI.out]; exact below_sto (bt aD.out dH.out) cN.out _ _)
   have cR:=hJ (bt aN.out gJ.out)
   have aC:=hJ (BX.new eB.out cR.out)
   have kP:=aC.out.frozen 0
   have kQ:=aC.out.cell 0 rfl
   have kR:=aC.out.frozen 1
   have kS:=aC.out.cell 1 rfl
   have kT:=aC.out.frozen 2
   have kU:=aC.out.cell 2 rfl
   have kV:=aC.out.frozen 3
   have kW:=aC.out.cell 3 rfl
   obtain ⟨x28,gK⟩:=nmz (World.setCell (World.setCell (World.setCell (World.setCell x23 ⟨w.heap.size+5,0,none⟩ (.bool false)) ⟨w.heap.size+5,1,none⟩ (.slice none 0 0)) ⟨w.heap.size+5,2,none⟩ (.bool false)) ⟨w.heap.size+5,3,none⟩ (.slice none 0 0))
   have gL:=hJ (show sto x23 (w.heap.size+5) 0 [.bool false,.slice none 0 0,.bool false,.slice none 0 0]=x28 from gK)
   have kX:=hJ (show BX 35 x28 (w.heap.size+5) #[.bool false,.slice none 0 0,.bool false,.slice none 0 0] by rw [←gL.out]; exact BX.put aC.out _ _)
   have cS:=hJ (show Below w.heap.size w x22 by rw [←gI.out]; exact below_sto (bt cP.out dH.out) (Nat.le_trans (dQ.out).size cN.out) _ _)
   have cT:=hJ (show Below w.heap.size w x28 by rw [←gL.out]; exact below_sto (bt cS.out gJ.out) eC.out _ _)
   go_wp2
   clear kC kD kE kF kG kH kI kJ gH fE kL kM kN kO kP kQ kR kS kT kU kV kW gK
   exact bodyPost_ret (results_cell1 rfl _ _ _ _ _ _ _ rfl kX.out Tryz.underlying35 rfl F_size) rfl (by rw [HV.out,feP,feQ,if_neg HN.out,if_neg HN.out]; exact ⟨false,none,0,0,false,none,0,0,rfl,PF.zero _,cT.out⟩)
  ·(try rw [show ((2:Nat):Int)=2 from rfl])
   obtain rfl:P0=y0_10:=(aB.out.1 (by decide)).1.symm
   obtain rfl:Q0=z0_10:=(aB.out.1 (by decide)).2.1.symm
   obtain rfl:C0=0:=(aB.out.1 (by decide)).2.2
   obtain rfl:P1=y1_10:=(aB.out.2.1 (by decide)).1.symm
   obtain rfl:Q1=z1_10:=(aB.out.2.1 (by decide)).2.1.symm
   obtain rfl:C1=0:=(aB.out.2.1 (by decide)).2.2
   have hix:∀ wx,(Instr.index 200 (.agg #[.func (.func 139) #[] #[.pointer (some ⟨w.heap.size,0,none⟩),.pointer (some ⟨w.heap.size+3,0,none⟩),.pointer (some ⟨w.heap.size+2,0,none⟩)],.func (.func 140) #[] #[.pointer (some ⟨w.heap.size,0,none⟩),.pointer (some ⟨w.heap.size+4,0,none⟩),.pointer (some ⟨w.heap.size+2,0,none⟩)],.func (.func 141) #[] #[.pointer (some ⟨w.heap.size+1,0,none⟩),.pointer (some ⟨x1.heap.size,0,none⟩)],.func (.func 142) #[] #[.pointer (some ⟨w.heap.size,0,none⟩),.pointer (some ⟨w.heap.size+3,0,none⟩),.pointer (some ⟨w.heap.size+2,0,none⟩)],.func (.func 143) #[] #[.pointer (some ⟨w.heap.size,0,none⟩),.pointer (some ⟨w.heap.size+4,0,none⟩),.pointer (some ⟨w.heap.size+2,0,none⟩)],.func (.func 144) #[] #[.pointer (some ⟨w.heap.size+1,0,none⟩),.pointer (some ⟨x1.heap.size,0,none⟩)],.func (.func 145) #[] #[.pointer (some ⟨w.heap.size,0,none⟩),.pointer (some ⟨x1.heap.size,0,none⟩)]]) (.int .i64 2)).run Tryz.prog wx=.ok (.func (.func 141) #[] #[.pointer (some ⟨w.heap.size+1,0,none⟩),.pointer (some ⟨x1.heap.size,0,none⟩)]) wx:=fun wx=>gx7_2 wx
   have fF:=hJ (BX.new fW.out aD.out)
   go_wp2_with fail
   clear hix
   refine (fda3_any P0 Q0 P1 Q1 aO aR aS aT aU aV aW aX aY aZ bA bB bC bD bE bF bG bH bJ bK bL bM bN bO bP bQ bR bS bT bU bV bW bX bY bZ cA cB cC cD cE cF cG cH cI cJ cK cL cM aF aG aH aI aJ aK aL aM (w.heap.size+1) x1.heap.size wl10 fF.out cO.out eE.out eF.out fS.out fT.out).mono ?_
   rw [eO.out.1,eO.out.2.1,eO.out.2.2]
   rintro e w29 ⟨s13,A13,n13,c13,t13,B13,m13,d13,rfl,hr13,hb⟩
   have dK:=hJ hb
   have kY:=hJ hr13
   clear hb hr13
   by_cases hc:C2=0
   ·obtain rfl:=hc
    have aA:=hJ (BX.new cO.out dK.out)
    have kZ:=aA.out.frozen 8
    have lA:=aA.out.cell 8 rfl
    have lB:=aA.out.frozen 9
    have lC:=aA.out.cell 9 rfl
    have lD:=aA.out.frozen 10
    have lE:=aA.out.cell 10 rfl
    have lF:=aA.out.frozen 11
    have lG:=aA.out.cell 11 rfl
    obtain ⟨x30,gM⟩:=nmz (World.setCell (World.setCell (World.setCell (World.setCell w29 ⟨x1.heap.size,8,none⟩ (.bool s13)) ⟨x1.heap.size,9,none⟩ (.slice A13 n13 c13)) ⟨x1.heap.size,10,none⟩ (.bool t13)) ⟨x1.heap.size,11,none⟩ (.slice B13 m13 d13))
    have dU:=hJ (show sto w29 x1.heap.size 8 [.bool s13,.slice A13 n13 c13,.bool t13,.slice B13 m13 d13]=x30 from gM)
    have lH:=hJ (show BX 198 x30 x1.heap.size #[.bool aO,.slice aR aS aT,.bool aU,.slice aV aW aX,.bool aY,.slice aZ bA bB,.bool bC,.slice bD bE bF,.bool s13,.slice A13 n13 c13,.bool t13,.slice B13 m13 d13,.bool bP,.slice bQ bR bS,.bool bT,.slice bU bV bW,.bool bX,.slice bY bZ cA,.bool cB,.slice cC cD cE,.bool cF,.slice cG cH cI,.bool cJ,.slice cK cL cM,.bool aF,.slice aG aH aI,.bool aJ,.slice aK aL aM] by rw [←dU.out]; exact BX.put aA.out _ _)
    have dI:=hJ (PF.new eE.out dK.out)
    have dJ:=hJ (show PF x30 aO aR aS aT aU aV aW aX P0 Q0 by rw [←dU.out]; exact PF.sto dI.out aA.out rfl _ _)
    have cV:=hJ (PF.new eF.out dK.out)
    have cW:=hJ (show PF x30 aY aZ bA bB bC bD bE bF P1 Q1 by rw [←dU.out]; exact PF.sto cV.out aA.out rfl _ _)
    have lI:=hJ (show PF x30 s13 A13 n13 c13 t13 B13 m13 d13 P2 Q2 by rw [←dU.out]; exact PF.sto kY.out aA.out rfl _ _)
    have cZ:=hJ (PF.new eH.out dK.out)
    have dA:=hJ (show PF x30 bP bQ bR bS bT bU bV bW y3_10 z3_10 by rw [←dU.out]; exact PF.sto cZ.out aA.out rfl _ _)
    have dB:=hJ (PF.new eI.out dK.out)
    have dD:=hJ (show PF x30 bX bY bZ cA cB cC cD cE y4_10 z4_10 by rw [←dU.out]; exact PF.sto dB.out aA.out rfl _ _)
    have dE:=hJ (PF.new eJ.out dK.out)
    have dF:=hJ (show PF x30 cF cG cH cI cJ cK cL cM y5_10 z5_10 by rw [←dU.out]; exact PF.sto dE.out aA.out rfl _ _)
    have cQ:=hJ (PF.new eK.out dK.out)
    have dG:=hJ (show PF x30 aF aG aH aI aJ aK aL aM y6_10 z6_10 by rw [←dU.out]; exact PF.sto cQ.out aA.out rfl _ _)
    have aN:=hJ (show Below x1.heap.size x1 x30 by rw [←dU.out]; exact below_sto (bt aD.out dK.out) cN.out _ _)
    go_wp2_with fail
    clear kZ lA lB lC lD lE lF lG gM
    go_roundw
    case rel=>exact ⟨2+1,aO,aR,aS,aT,aU,aV,aW,aX,aY,aZ,bA,bB,bC,bD,bE,bF,s13,A13,n13,c13,t13,B13,m13,d13,bP,bQ,bR,bS,bT,bU,bV,bW,bX,bY,bZ,cA,cB,cC,cD,cE,cF,cG,cH,cI,cJ,cK,cL,cM,aF,aG,aH,aI,aJ,aK,aL,aM,P0,Q0,P1,Q1,P2,Q2,y3_10,z3_10,y4_10,z4_10,y5_10,z5_10,y6_10,z6_10,by omega,by go_num,lH.out,dJ.out,cW.out,lI.out,dA.out,dD.out,dF.out,dG.out,hJ (⟨fun _=>⟨rfl,rfl,by first | rfl | trivial⟩,fun _=>⟨rfl,rfl,by first | rfl | trivial⟩,fun _=>⟨rfl,rfl,by first | rfl | trivial⟩,fun h=>absurd h (by decide),fun h=>absurd h (by decide),fun h=>absurd h (by decide),fun h=>absurd h (by decide)⟩),aN.out⟩
    case measure=>simp [intOf] <;> omega
   have hcz:(C2 == 0)=false:=by simp [hc]
   have HV:=hJ (show feV [0,0,C2,C3,C4,C5,C6]=C2 from feV_n hc)
   have HN:=hJ hc
   clear hc
   have aA:=hJ (BX.new cO.out dK.out)
   have lJ:=aA.out.frozen 8
   have lK:=aA.out.cell 8 rfl
   have lL:=aA.out.frozen 9
   have lM:=aA.out.cell 9 rfl
   have lN:=aA.out.frozen 10
   have lO:=aA.out.cell 10 rfl
   have lP:=aA.out.frozen 11
   have lQ:=aA.out.cell 11 rfl
   obtain ⟨x31,gN⟩:=nmz (World.setCell (World.setCell (World.setCell (World.setCell w29 ⟨x1.heap.size,8,none⟩ (.bool s13)) ⟨x1.heap.size,9,none⟩ (.slice A13 n13 c13)) ⟨x1.heap.size,10,none⟩ (.bool t13)) ⟨x1.heap.size,11,none⟩ (.slice B13 m13 d13))
   have gO:=hJ (show sto w29 x1.heap.size 8 [.bool s13,.slice A13 n13 c13,.bool t13,.slice B13 m13 d13]=x31 from gN)
   obtain ⟨x32,fG⟩:=nmz (x31.alloc (.cells #[.bool false,.slice none 0 0,.bool false,.slice none 0 0] 35))
   have gP:=hJ (show Below x31.heap.size x31 x32 by rw [←fG]; exact ((Below.refl _ _).alloc (Nat.le_refl _) _))
   have lR:=hJ (show BX 35 x32 x31.heap.size #[.bool false,.slice none 0 0,.bool false,.slice none 0 0] by rw [←fG]; exact (BX.at rfl))
   obtain ⟨lS,lT,lU,lV⟩:=lR.out.c4 0 1 2 3 rfl rfl rfl rfl
   have aN:=hJ (show Below x1.heap.size x1 x31 by rw [←gO.out]; exact below_sto (bt aD.out dK.out) cN.out _ _)
   have cR:=hJ (bt aN.out gP.out)
   have aC:=hJ (BX.new eB.out cR.out)
   have lW:=aC.out.frozen 0
   have lX:=aC.out.cell 0 rfl
   have lY:=aC.out.frozen 1
   have lZ:=aC.out.cell 1 rfl
   have mA:=aC.out.frozen 2
   have mB:=aC.out.cell 2 rfl
   have mC:=aC.out.frozen 3
   have mD:=aC.out.cell 3 rfl
   obtain ⟨x37,gQ⟩:=nmz (World.setCell (World.setCell (World.setCell (World.setCell x32 ⟨w.heap.size+5,0,none⟩ (.bool false)) ⟨w.heap.size+5,1,none⟩ (.slice none 0 0)) ⟨w.heap.size+5,2,none⟩ (.bool false)) ⟨w.heap.size+5,3,none⟩ (.slice none 0 0))
   have gR:=hJ (show sto x32 (w.heap.size+5) 0 [.bool false,.slice none 0 0,.bool false,.slice none 0 0]=x37 from gQ)
   have mE:=hJ (show BX 35 x37 (w.heap.size+5) #[.bool false,.slice none 0 0,.bool false,.slice none 0 0] by rw [←gR.out]; exact BX.put aC.out _ _)
   have cS:=hJ (show Below w.heap.size w x31 by rw [←gO.out]; exact below_sto (bt cP.out dK.out) (Nat.le_trans (dQ.out).size cN.out) _ _)
   have cT:=hJ (show Below w.heap.size w x37 by rw [←gR.out]; exact below_sto (bt cS.out gP.out) eC.out _ _)
   go_wp2
   clear lJ lK lL lM lN lO lP lQ gN fG lS lT lU lV lW lX lY lZ mA mB mC mD gQ
   exact bodyPost_ret (results_cell1 rfl _ _ _ _ _ _ _ rfl mE.out Tryz.underlying35 rfl F_size) rfl (by rw [HV.out,feP,feQ,if_neg HN.out,if_neg HN.out]; exact ⟨false,none,0,0,false,none,0,0,rfl,PF.zero _,cT.out⟩)
  ·(try rw [show ((3:Nat):Int)=3 from rfl])
   obtain rfl:P0=y0_10:=(aB.out.1 (by decide)).1.symm
   obtain rfl:Q0=z0_10:=(aB.out.1 (by decide)).2.1.symm
   obtain rfl:C0=0:=(aB.out.1 (by decide)).2.2
   obtain rfl:P1=y1_10:=(aB.out.2.1 (by decide)).1.symm
   obtain rfl:Q1=z1_10:=(aB.out.2.1 (by decide)).2.1.symm
   obtain rfl:C1=0:=(aB.out.2.1 (by decide)).2.2
   obtain rfl:P2=y2_10:=(aB.out.2.2.1 (by decide)).1.symm
   obtain rfl:Q2=z2_10:=(aB.out.2.2.1 (by decide)).2.1.symm
   obtain rfl:C2=0:=(aB.out.2.2.1 (by decide)).2.2
   have hix:∀ wx,(Instr.index 200 (.agg #[.func (.func 139) #[] #[.pointer (some ⟨w.heap.size,0,none⟩),.pointer (some ⟨w.heap.size+3,0,none⟩),.pointer (some ⟨w.heap.size+2,0,none⟩)],.func (.func 140) #[] #[.pointer (some ⟨w.heap.size,0,none⟩),.pointer (some ⟨w.heap.size+4,0,none⟩),.pointer (some ⟨w.heap.size+2,0,none⟩)],.func (.func 141) #[] #[.pointer (some ⟨w.heap.size+1,0,none⟩),.pointer (some ⟨x1.heap.size,0,none⟩)],.func (.func 142) #[] #[.pointer (some ⟨w.heap.size,0,none⟩),.pointer (some ⟨w.heap.size+3,0,none⟩),.pointer (some ⟨w.heap.size+2,0,none⟩)],.func (.func 143) #[] #[.pointer (some ⟨w.heap.size,0,none⟩),.pointer (some ⟨w.heap.size+4,0,none⟩),.pointer (some ⟨w.heap.size+2,0,none⟩)],.func (.func 144) #[] #[.pointer (some ⟨w.heap.size+1,0,none⟩),.pointer (some ⟨x1.heap.size,0,none⟩)],.func (.func 145) #[] #[.pointer (some ⟨w.heap.size,0,none⟩),.pointer (some ⟨x1.heap.size,0,none⟩)]]) (.int .i64 3)).run Tryz.prog wx=.ok (.func (.func 142) #[] #[.pointer (some ⟨w.heap.size,0,none⟩),.pointer (some ⟨w.heap.size+3,0,none⟩),.pointer (some ⟨w.heap.size+2,0,none⟩)]) wx:=fun wx=>gx7_3 wx
   have dR:=hJ (BX.new eS.out aD.out)
   have eZ:=hJ (BX.new fX.out aD.out)
   have eL:=hJ (BX.new eV.out aD.out)
   have mF:=hJ (PF.new hT.out cP.out)
   have fD:=hJ (PF.new fN.out cP.out)
   go_wp2_with fail
   clear hix
   refine (fda4_any p3 q3 p1 q1 s2 A2 n2 c2 t2 B2 m2 d2 s3 A3 n3 c3 t3 B3 m3 d3 s0 A0 n0 c0 t0 B0 m0 d0 s1 A1 n1 c1 t1 B1 m1 d1 w.heap.size (w.heap.size+3) (w.heap.size+2) wl10 dR.out eZ.out eL.out mF.out fD.out fP.out eU.out).mono ?_
   rw [eP.out.1,eP.out.2.1,eP.out.2.2]
   rintro e w38 ⟨s14,A14,n14,c14,t14,B14,m14,d14,rfl,hr14,hb⟩
   have dL:=hJ hb
   have mG:=hJ hr14
   clear hb hr14
   by_cases hc:C3=0
   ·obtain rfl:=hc
    have aA:=hJ (BX.new cO.out dL.out)
    have mH:=aA.out.frozen 12
    have mI:=aA.out.cell 12 rfl
    have mJ:=aA.out.frozen 13
    have mK:=aA.out.cell 13 rfl
    have mL:=aA.out.frozen 14
    have mM:=aA.out.cell 14 rfl
    have mN:=aA.out.frozen 15
    have mO:=aA.out.cell 15 rfl
    obtain ⟨x39,gS⟩:=nmz (World.setCell (World.setCell (World.setCell (World.setCell w38 ⟨x1.heap.size,12,none⟩ (.bool s14)) ⟨x1.heap.size,13,none⟩ (.slice A14 n14 c14)) ⟨x1.heap.size,14,none⟩ (.bool t14)) ⟨x1.heap.size,15,none⟩ (.slice B14 m14 d14))
    have dW:=hJ (show sto w38 x1.heap.size 12 [.bool s14,.slice A14 n14 c14,.bool t14,.slice B14 m14 d14]=x39 from gS)
    have mP:=hJ (show BX 198 x39 x1.heap.size #[.bool aO,.slice aR aS aT,.bool aU,.slice aV aW aX,.bool aY,.slice aZ bA bB,.bool bC,.slice bD bE bF,.bool bG,.slice bH bJ bK,.bool bL,.slice bM bN bO,.bool s14,.slice A14 n14 c14,.bool t14,.slice B14 m14 d14,.bool bX,.slice bY bZ cA,.bool cB,.slice cC cD cE,.bool cF,.slice cG cH cI,.bool cJ,.slice cK cL cM,.bool aF,.slice aG aH aI,.bool aJ,.slice aK aL aM] by rw [←dW.out]; exact BX.put aA.out _ _)
    have dI:=hJ (PF.new eE.out dL.out)
    have dJ:=hJ (show PF x39 aO aR aS aT aU aV aW aX P0 Q0 by rw [←dW.out]; exact PF.sto dI.out aA.out rfl _ _)
    have cV:=hJ (PF.new eF.out dL.out)
    have cW:=hJ (show PF x39 aY aZ bA bB bC bD bE bF P1 Q1 by rw [←dW.out]; exact PF.sto cV.out aA.out rfl _ _)
    have cX:=hJ (PF.new eG.out dL.out)
    have cY:=hJ (show PF x39 bG bH bJ bK bL bM bN bO P2 Q2 by rw [←dW.out]; exact PF.sto cX.out aA.out rfl _ _)
    have mQ:=hJ (show PF x39 s14 A14 n14 c14 t14 B14 m14 d14 P3 Q3 by rw [←dW.out]; exact PF.sto mG.out aA.out rfl _ _)
    have dB:=hJ (PF.new eI.out dL.out)
    have dD:=hJ (show PF x39 bX bY bZ cA cB cC cD cE y4_10 z4_10 by rw [←dW.out]; exact PF.sto dB.out aA.out rfl _ _)
    have dE:=hJ (PF.new eJ.out dL.out)
    have dF:=hJ (show PF x39 cF cG cH cI cJ cK cL cM y5_10 z5_10 by rw [←dW.out]; exact PF.sto dE.out aA.out rfl _ _)
    have cQ:=hJ (PF.new eK.out dL.out)
    have dG:=hJ (show PF x39 aF aG aH aI aJ aK aL aM y6_10 z6_10 by rw [←dW.out]; exact PF.sto cQ.out aA.out rfl _ _)
    have aN:=hJ (show Below x1.heap.size x1 x39 by rw [←dW.out]; exact below_sto (bt aD.out dL.out) cN.out _ _)
    go_wp2_with fail
    clear mH mI mJ mK mL mM mN mO gS
    go_roundw
    case rel=>exact ⟨3+1,aO,aR,aS,aT,aU,aV,aW,aX,aY,aZ,bA,bB,bC,bD,bE,bF,bG,bH,bJ,bK,bL,bM,bN,bO,s14,A14,n14,c14,t14,B14,m14,d14,bX,bY,bZ,cA,cB,cC,cD,cE,cF,cG,cH,cI,cJ,cK,cL,cM,aF,aG,aH,aI,aJ,aK,aL,aM,P0,Q0,P1,Q1,P2,Q2,P3,Q3,y4_10,z4_10,y5_10,z5_10,y6_10,z6_10,by omega,by go_num,mP.out,dJ.out,cW.out,cY.out,mQ.out,dD.out,dF.out,dG.out,hJ (⟨fun _=>⟨rfl,rfl,by first | rfl | trivial⟩,fun _=>⟨rfl,rfl,by first | rfl | trivial⟩,fun _=>⟨rfl,rfl,by first | rfl | trivial⟩,fun _=>⟨rfl,rfl,by first | rfl | trivial⟩,fun h=>absurd h (by decide),fun h=>absurd h (by decide),fun h=>absurd h (by decide)⟩),aN.out⟩
    case measure=>simp [intOf] <;> omega
   have hcz:(C3 == 0)=false:=by simp [hc]
   have HV:=hJ (show feV [0,0,0,C3,C4,C5,C6]=C3 from feV_n hc)
   have HN:=hJ hc
   clear hc
   have aA:=hJ (BX.new cO.out dL.out)
   have mR:=aA.out.frozen 12
   have mS:=aA.out.cell 12 rfl
   have mT:=aA.out.frozen 13
   have mU:=aA.out.cell 13 rfl
   have mV:=aA.out.frozen 14
   have mW:=aA.out.cell 14 rfl
   have mX:=aA.out.frozen 15
   have mY:=aA.out.cell 15 rfl
   obtain ⟨x40,gT⟩:=nmz (World.setCell (World.setCell (World.setCell (World.setCell w38 ⟨x1.heap.size,12,none⟩ (.bool s14)) ⟨x1.heap.size,13,none⟩ (.slice A14 n14 c14)) ⟨x1.heap.size,14,none⟩ (.bool t14)) ⟨x1.heap.size,15,none⟩ (.slice B14 m14 d14))
   have gU:=hJ (show sto w38 x1.heap.size 12 [.bool s14,.slice A14 n14 c14,.bool t14,.slice B14 m14 d14]=x40 from gT)
   obtain ⟨x41,fH⟩:=nmz (x40.alloc (.cells #[.bool false,.slice none 0 0,.bool false,.slice none 0 0] 35))
   have gV:=hJ (show Below x40.heap.size x40 x41 by rw [←fH]; exact ((Below.refl _ _).alloc (Nat.le_refl _) _))
   have mZ:=hJ (show BX 35 x41 x40.heap.size #[.bool false,.slice none 0 0,.bool false,.slice none 0 0] by rw [←fH]; exact (BX.at rfl))
   obtain ⟨nA,nB,nC,nD⟩:=mZ.out.c4 0 1 2 3 rfl rfl rfl rfl
   have aN:=hJ (show Below x1.heap.size x1 x40 by rw [←gU.out]; exact below_sto (bt aD.out dL.out) cN.out _ _)
   have cR:=hJ (bt aN.out gV.out)
   have aC:=hJ (BX.new eB.out cR.out)
   have nE:=aC.out.frozen 0
   have nF:=aC.out.cell 0 rfl
   have nG:=aC.out.frozen 1
   have nH:=aC.out.cell 1 rfl
   have nJ:=aC.out.frozen 2
   have nK:=aC.out.cell 2 rfl
   have nL:=aC.out.frozen 3
   have nM:=aC.out.cell 3 rfl
   obtain ⟨x46,gW⟩:=nmz (World.setCell (World.setCell (World.setCell (World.setCell x41 ⟨w.heap.size+5,0,none⟩ (.bool false)) ⟨w.heap.size+5,1,none⟩ (.slice none 0 0)) ⟨w.heap.size+5,2,none⟩ (.bool false)) ⟨w.heap.size+5,3,none⟩ (.slice none 0 0))
   have gX:=hJ (show sto x41 (w.heap.size+5) 0 [.bool false,.slice none 0 0,.bool false,.slice none 0 0]=x46 from gW)
   have nN:=hJ (show BX 35 x46 (w.heap.size+5) #[.bool false,.slice none 0 0,.bool false,.slice none 0 0] by rw [←gX.out]; exact BX.put aC.out _ _)
   have cS:=hJ (show Below w.heap.size w x40 by rw [←gU.out]; exact below_sto (bt cP.out dL.out) (Nat.le_trans (dQ.out).size cN.out) _ _)
   have cT:=hJ (show Below w.heap.size w x46 by rw [←gX.out]; exact below_sto (bt cS.out gV.out) eC.out _ _)
   go_wp2
   clear mR mS mT mU mV mW mX mY gT fH nA nB nC nD nE nF nG nH nJ nK nL nM gW
   exact bodyPost_ret (results_cell1 rfl _ _ _ _ _ _ _ rfl nN.out Tryz.underlying35 rfl F_size) rfl (by rw [HV.out,feP,feQ,if_neg HN.out,if_neg HN.out]; exact ⟨false,none,0,0,false,none,0,0,rfl,PF.zero _,cT.out⟩)
  ·(try rw [show ((4:Nat):Int)=4 from rfl])
   obtain rfl:P0=y0_10:=(aB.out.1 (by decide)).1.symm
   obtain rfl:Q0=z0_10:=(aB.out.1 (by decide)).2.1.symm
   obtain rfl:C0=0:=(aB.out.1 (by decide)).2.2
   obtain rfl:P1=y1_10:=(aB.out.2.1 (by decide)).1.symm
   obtain rfl:Q1=z1_10:=(aB.out.2.1 (by decide)).2.1.symm
   obtain rfl:C1=0:=(aB.out.2.1 (by decide)).2.2
   obtain rfl:P2=y2_10:=(aB.out.2.2.1 (by decide)).1.symm
   obtain rfl:Q2=z2_10:=(aB.out.2.2.1 (by decide)).2.1.symm
   obtain rfl:C2=0:=(aB.out.2.2.1 (by decide)).2.2
   obtain rfl:P3=y3_10:=(aB.out.2.2.2.1 (by decide)).1.symm
   obtain rfl:Q3=z3_10:=(aB.out.2.2.2.1 (by decide)).2.1.symm
   obtain rfl:C3=0:=(aB.out.2.2.2.1 (by decide)).2.2
   have hix:∀ wx,(Instr.index 200 (.agg #[.func (.func 139) #[] #[.pointer (some ⟨w.heap.size,0,none⟩),.pointer (some ⟨w.heap.size+3,0,none⟩),.pointer (some ⟨w.heap.size+2,0,none⟩)],.func (.func 140) #[] #[.pointer (some ⟨w.heap.size,0,none⟩),.pointer (some ⟨w.heap.size+4,0,none⟩),.pointer (some ⟨w.heap.size+2,0,none⟩)],.func (.func 141) #[] #[.pointer (some ⟨w.heap.size+1,0,none⟩),.pointer (some ⟨x1.heap.size,0,none⟩)],.func (.func 142) #[] #[.pointer (some ⟨w.heap.size,0,none⟩),.pointer (some ⟨w.heap.size+3,0,none⟩),.pointer (some ⟨w.heap.size+2,0,none⟩)],.func (.func 143) #[] #[.pointer (some ⟨w.heap.size,0,none⟩),.pointer (some ⟨w.heap.size+4,0,none⟩),.pointer (some ⟨w.heap.size+2,0,none⟩)],.func (.func 144) #[] #[.pointer (some ⟨w.heap.size+1,0,none⟩),.pointer (some ⟨x1.heap.size,0,none⟩)],.func (.func 145) #[] #[.pointer (some ⟨w.heap.size,0,none⟩),.pointer (some ⟨x1.heap.size,0,none⟩)]]) (.int .i64 4)).run Tryz.prog wx=.ok (.func (.func 143) #[] #[.pointer (some ⟨w.heap.size,0,none⟩),.pointer (some ⟨w.heap.size+4,0,none⟩),.pointer (some ⟨w.heap.size+2,0,none⟩)]) wx:=fun wx=>gx7_4 wx
   have dR:=hJ (BX.new eS.out aD.out)
   have fC:=hJ (BX.new fY.out aD.out)
   have eL:=hJ (BX.new eV.out aD.out)
   have nO:=hJ (PF.new hU.out cP.out)
   have fA:=hJ (PF.new fM.out cP.out)
   go_wp2_with fail
   clear hix
   refine (fda5_any p4 q4 p0 q0 s4 A4 n4 c4 t4 B4 m4 d4 s5 A5 n5 c5 t5 B5 m5 d5 s0 A0 n0 c0 t0 B0 m0 d0 s1 A1 n1 c1 t1 B1 m1 d1 w.heap.size (w.heap.size+4) (w.heap.size+2) wl10 dR.out fC.out eL.out nO.out fA.out fQ.out eT.out).mono ?_
   rw [eQ.out.1,eQ.out.2.1,eQ.out.2.2]
   rintro e w47 ⟨s15,A15,n15,c15,t15,B15,m15,d15,rfl,hr15,hb⟩
   have dM:=hJ hb
   have nP:=hJ hr15
   clear hb hr15
   by_cases hc:C4=0
   ·obtain rfl:=hc
    have aA:=hJ (BX.new cO.out dM.out)
    have nQ:=aA.out.frozen 16
    have nR:=aA.out.cell 16 rfl
    have nS:=aA.out.frozen 17
    have nT:=aA.out.cell 17 rfl
    have nU:=aA.out.frozen 18
    have nV:=aA.out.cell 18 rfl
    have nW:=aA.out.frozen 19
    have nX:=aA.out.cell 19 rfl
    obtain ⟨x48,gY⟩:=nmz (World.setCell (World.setCell (World.setCell (World.setCell w47 ⟨x1.heap.size,16,none⟩ (.bool s15)) ⟨x1.heap.size,17,none⟩ (.slice A15 n15 c15)) ⟨x1.heap.size,18,none⟩ (.bool t15)) ⟨x1.heap.size,19,none⟩ (.slice B15 m15 d15))
    have dX:=hJ (show sto w47 x1.heap.size 16 [.bool s15,.slice A15 n15 c15,.bool t15,.slice B15 m15 d15]=x48 from gY)
    have nY:=hJ (show BX 198 x48 x1.heap.size #[.bool aO,.slice aR aS aT,.bool aU,.slice aV aW aX,.bool aY,.slice aZ bA bB,.bool bC,.slice bD bE bF,.bool bG,.slice bH bJ bK,.bool bL,.slice bM bN bO,.bool bP,.slice bQ bR bS,.bool bT,.slice bU bV bW,.bool s15,.slice A15 n15 c15,.bool t15,.slice B15 m15 d15,.bool cF,.slice cG cH cI,.bool cJ,.slice cK cL cM,.bool aF,.slice aG aH aI,.bool aJ,.slice aK aL aM] by rw [←dX.out]; exact BX.put aA.out _ _)
    have dI:=hJ (PF.new eE.out dM.out)
    have dJ:=hJ (show PF x48 aO aR aS aT aU aV aW aX P0 Q0 by rw [←dX.out]; exact PF.sto dI.out aA.out rfl _ _)
    have cV:=hJ (PF.new eF.out dM.out)
    have cW:=hJ (show PF x48 aY aZ bA bB bC bD bE bF P1 Q1 by rw [←dX.out]; exact PF.sto cV.out aA.out rfl _ _)
    have cX:=hJ (PF.new eG.out dM.out)
    have cY:=hJ (show PF x48 bG bH bJ bK bL bM bN bO P2 Q2 by rw [←dX.out]; exact PF.sto cX.out aA.out rfl _ _)
    have cZ:=hJ (PF.new eH.out dM.out)
    have dA:=hJ (show PF x48 bP bQ bR bS bT bU bV bW P3 Q3 by rw [←dX.out]; exact PF.sto cZ.out aA.out rfl _ _)
    have nZ:=hJ (show PF x48 s15 A15 n15 c15 t15 B15 m15 d15 P4 Q4 by rw [←dX.out]; exact PF.sto nP.out aA.out rfl _ _)
    have dE:=hJ (PF.new eJ.out dM.out)
    have dF:=hJ (show PF x48 cF cG cH cI cJ cK cL cM y5_10 z5_10 by rw [←dX.out]; exact PF.sto dE.out aA.out rfl _ _)
    have cQ:=hJ (PF.new eK.out dM.out)
    have dG:=hJ (show PF x48 aF aG aH aI aJ aK aL aM y6_10 z6_10 by rw [←dX.out]; exact PF.sto cQ.out aA.out rfl _ _)
    have aN:=hJ (show Below x1.heap.size x1 x48 by rw [←dX.out]; exact below_sto (bt aD.out dM.out) cN.out _ _)
    go_wp2_with fail
    clear nQ nR nS nT nU nV nW nX gY
    go_roundw
    case rel=>exact ⟨4+1,aO,aR,aS,aT,aU,aV,aW,aX,aY,aZ,bA,bB,bC,bD,bE,bF,bG,bH,bJ,bK,bL,bM,bN,bO,bP,bQ,bR,bS,bT,bU,bV,bW,s15,A15,n15,c15,t15,B15,m15,d15,cF,cG,cH,cI,cJ,cK,cL,cM,aF,aG,aH,aI,aJ,aK,aL,aM,P0,Q0,P1,Q1,P2,Q2,P3,Q3,P4,Q4,y5_10,z5_10,y6_10,z6_10,by omega,by go_num,nY.out,dJ.out,cW.out,cY.out,dA.out,nZ.out,dF.out,dG.out,hJ (⟨fun _=>⟨rfl,rfl,by first | rfl | trivial⟩,fun _=>⟨rfl,rfl,by first | rfl | trivial⟩,fun _=>⟨rfl,rfl,by first | rfl | trivial⟩,fun _=>⟨rfl,rfl,by first | rfl | trivial⟩,fun _=>⟨rfl,rfl,by first | rfl | trivial⟩,fun h=>absurd h (by decide),fun h=>absurd h (by decide)⟩),aN.out⟩
    case measure=>simp [intOf] <;> omega
   have hcz:(C4 == 0)=false:=by simp [hc]
   have HV:=hJ (show feV [0,0,0,0,C4,C5,C6]=C4 from feV_n hc)
   have HN:=hJ hc
   clear hc
   have aA:=hJ (BX.new cO.out dM.out)
   have oA:=aA.out.frozen 16
   have oB:=aA.out.cell 16 rfl
   have oC:=aA.out.frozen 17
   have oD:=aA.out.cell 17 rfl
   have oE:=aA.out.frozen 18
   have oF:=aA.out.cell 18 rfl
   have oG:=aA.out.frozen 19
   have oH:=aA.out.cell 19 rfl
   obtain ⟨x49,gZ⟩:=nmz (World.setCell (World.setCell (World.setCell (World.setCell w47 ⟨x1.heap.size,16,none⟩ (.bool s15)) ⟨x1.heap.size,17,none⟩ (.slice A15 n15 c15)) ⟨x1.heap.size,18,none⟩ (.bool t15)) ⟨x1.heap.size,19,none⟩ (.slice B15 m15 d15))
   have hA:=hJ (show sto w47 x1.heap.size 16 [.bool s15,.slice A15 n15 c15,.bool t15,.slice B15 m15 d15]=x49 from gZ)
   obtain ⟨x50,fI⟩:=nmz (x49.alloc (.cells #[.bool false,.slice none 0 0,.bool false,.slice none 0 0] 35))
   have hB:=hJ (show Below x49.heap.size x49 x50 by rw [←fI]; exact ((Below.refl _ _).alloc (Nat.le_refl _) _))
   have oI:=hJ (show BX 35 x50 x49.heap.size #[.bool false,.slice none 0 0,.bool false,.slice none 0 0] by rw [←fI]; exact (BX.at rfl))
   obtain ⟨oJ,oK,oL,oM⟩:=oI.out.c4 0 1 2 3 rfl rfl rfl rfl
   have aN:=hJ (show Below x1.heap.size x1 x49 by rw [←hA.out]; exact below_sto (bt aD.out dM.out) cN.out _ _)
   have cR:=hJ (bt aN.out hB.out)
   have aC:=hJ (BX.new eB.out cR.out)
   have oN:=aC.out.frozen 0
   have oO:=aC.out.cell 0 rfl
   have oP:=aC.out.frozen 1
   have oQ:=aC.out.cell 1 rfl
   have oR:=aC.out.frozen 2
   have oS:=aC.out.cell 2 rfl
   have oT:=aC.out.frozen 3
   have oU:=aC.out.cell 3 rfl
   obtain ⟨x55,hC⟩:=nmz (World.setCell (World.setCell (World.setCell (World.setCell x50 ⟨w.heap.size+5,0,none⟩ (.bool false)) ⟨w.heap.size+5,1,none⟩ (.slice none 0 0)) ⟨w.heap.size+5,2,none⟩ (.bool false)) ⟨w.heap.size+5,3,none⟩ (.slice none 0 0))
   have hD:=hJ (show sto x50 (w.heap.size+5) 0 [.bool false,.slice none 0 0,.bool false,.slice none 0 0]=x55 from hC)
   have oV:=hJ (show BX 35 x55 (w.heap.size+5) #[.bool false,.slice none 0 0,.bool false,.slice none 0 0] by rw [←hD.out]; exact BX.put aC.out _ _)
   have cS:=hJ (show Below w.heap.size w x49 by rw [←hA.out]; exact below_sto (bt cP.out dM.out) (Nat.le_trans (dQ.out).size cN.out) _ _)
   have cT:=hJ (show Below w.heap.size w x55 by rw [←hD.out]; exact below_sto (bt cS.out hB.out) eC.out _ _)
   go_wp2
   clear oA oB oC oD oE oF oG oH gZ fI oJ oK oL oM oN oO oP oQ oR oS oT oU hC
   exact bodyPost_ret (results_cell1 rfl _ _ _ _ _ _ _ rfl oV.out Tryz.underlying35 rfl F_size) rfl (by rw [HV.out,feP,feQ,if_neg HN.out,if_neg HN.out]; exact ⟨false,none,0,0,false,none,0,0,rfl,PF.zero _,cT.out⟩)
  ·(try rw [show ((5:Nat):Int)=5 from rfl])
   obtain rfl:P0=y0_10:=(aB.out.1 (by decide)).1.symm
   obtain rfl:Q0=z0_10:=(aB.out.1 (by decide)).2.1.symm
   obtain rfl:C0=0:=(aB.out.1 (by decide)).2.2
   obtain rfl:P1=y1_10:=(aB.out.2.1 (by decide)).1.symm
   obtain rfl:Q1=z1_10:=(aB.out.2.1 (by decide)).2.1.symm
   obtain rfl:C1=0:=(aB.out.2.1 (by decide)).2.2
   obtain rfl:P2=y2_10:=(aB.out.2.2.1 (by decide)).1.symm
   obtain rfl:Q2=z2_10:=(aB.out.2.2.1 (by decide)).2.1.symm
   obtain rfl:C2=0:=(aB.out.2.2.1 (by decide)).2.2
   obtain rfl:P3=y3_10:=(aB.out.2.2.2.1 (by decide)).1.symm
   obtain rfl:Q3=z3_10:=(aB.out.2.2.2.1 (by decide)).2.1.symm
   obtain rfl:C3=0:=(aB.out.2.2.2.1 (by decide)).2.2
   obtain rfl:P4=y4_10:=(aB.out.2.2.2.2.1 (by decide)).1.symm
   obtain rfl:Q4=z4_10:=(aB.out.2.2.2.2.1 (by decide)).2.1.symm
   obtain rfl:C4=0:=(aB.out.2.2.2.2.1 (by decide)).2.2
   have hix:∀ wx,(Instr.index 200 (.agg #[.func (.func 139) #[] #[.pointer (some ⟨w.heap.size,0,none⟩),.pointer (some ⟨w.heap.size+3,0,none⟩),.pointer (some ⟨w.heap.size+2,0,none⟩)],.func (.func 140) #[] #[.pointer (some ⟨w.heap.size,0,none⟩),.pointer (some ⟨w.heap.size+4,0,none⟩),.pointer (some ⟨w.heap.size+2,0,none⟩)],.func (.func 141) #[] #[.pointer (some ⟨w.heap.size+1,0,none⟩),.pointer (some ⟨x1.heap.size,0,none⟩)],.func (.func 142) #[] #[.pointer (some ⟨w.heap.size,0,none⟩),.pointer (some ⟨w.heap.size+3,0,none⟩),.pointer (some ⟨w.heap.size+2,0,none⟩)],.func (.func 143) #[] #[.pointer (some ⟨w.heap.size,0,none⟩),.pointer (some ⟨w.heap.size+4,0,none⟩),.pointer (some ⟨w.heap.size+2,0,none⟩)],.func (.func 144) #[] #[.pointer (some ⟨w.heap.size+1,0,none⟩),.pointer (some ⟨x1.heap.size,0,none⟩)],.func (.func 145) #[] #[.pointer (some ⟨w.heap.size,0,none⟩),.pointer (some ⟨x1.heap.size,0,none⟩)]]) (.int .i64 5)).run Tryz.prog wx=.ok (.func (.func 144) #[] #[.pointer (some ⟨w.heap.size+1,0,none⟩),.pointer (some ⟨x1.heap.size,0,none⟩)]) wx:=fun wx=>gx7_5 wx
   have fF:=hJ (BX.new fW.out aD.out)
   go_wp2_with fail
   clear hix
   refine (fda6_any P3 Q3 P4 Q4 aO aR aS aT aU aV aW aX aY aZ bA bB bC bD bE bF bG bH bJ bK bL bM bN bO bP bQ bR bS bT bU bV bW bX bY bZ cA cB cC cD cE cF cG cH cI cJ cK cL cM aF aG aH aI aJ aK aL aM (w.heap.size+1) x1.heap.size wl10 fF.out cO.out eH.out eI.out fU.out fV.out).mono ?_
   rw [eR.out.1,eR.out.2.1,eR.out.2.2]
   rintro e w56 ⟨s16,A16,n16,c16,t16,B16,m16,d16,rfl,hr16,hb⟩
   have dN:=hJ hb
   have oW:=hJ hr16
   clear hb hr16
   by_cases hc:C5=0
   ·obtain rfl:=hc
    have aA:=hJ (BX.new cO.out dN.out)
    have oX:=aA.out.frozen 20
    have oY:=aA.out.cell 20 rfl
    have oZ:=aA.out.frozen 21
    have pA:=aA.out.cell 21 rfl
    have pB:=aA.out.frozen 22
    have pC:=aA.out.cell 22 rfl
    have pD:=aA.out.frozen 23
    have pE:=aA.out.cell 23 rfl
    obtain ⟨x57,hE⟩:=nmz (World.setCell (World.setCell (World.setCell (World.setCell w56 ⟨x1.heap.size,20,none⟩ (.bool s16)) ⟨x1.heap.size,21,none⟩ (.slice A16 n16 c16)) ⟨x1.heap.size,22,none⟩ (.bool t16)) ⟨x1.heap.size,23,none⟩ (.slice B16 m16 d16))
    have dY:=hJ (show sto w56 x1.heap.size 20 [.bool s16,.slice A16 n16 c16,.bool t16,.slice B16 m16 d16]=x57 from hE)
    have pF:=hJ (show BX 198 x57 x1.heap.size #[.bool aO,.slice aR aS aT,.bool aU,.slice aV aW aX,.bool aY,.slice aZ bA bB,.bool bC,.slice bD bE bF,.bool bG,.slice bH bJ bK,.bool bL,.slice bM bN bO,.bool bP,.slice bQ bR bS,.bool bT,.slice bU bV bW,.bool bX,.slice bY bZ cA,.bool cB,.slice cC cD cE,.bool s16,.slice A16 n16 c16,.bool t16,.slice B16 m16 d16,.bool aF,.slice aG aH aI,.bool aJ,.slice aK aL aM] by rw [←dY.out]; exact BX.put aA.out _ _)
    have dI:=hJ (PF.new eE.out dN.out)
    have dJ:=hJ (show PF x57 aO aR aS aT aU aV aW aX P0 Q0 by rw [←dY.out]; exact PF.sto dI.out aA.out rfl _ _)
    have cV:=hJ (PF.new eF.out dN.out)
    have cW:=hJ (show PF x57 aY aZ bA bB bC bD bE bF P1 Q1 by rw [←dY.out]; exact PF.sto cV.out aA.out rfl _ _)
    have cX:=hJ (PF.new eG.out dN.out)
    have cY:=hJ (show PF x57 bG bH bJ bK bL bM bN bO P2 Q2 by rw [←dY.out]; exact PF.sto cX.out aA.out rfl _ _)
    have cZ:=hJ (PF.new eH.out dN.out)
    have dA:=hJ (show PF x57 bP bQ bR bS bT bU bV bW P3 Q3 by rw [←dY.out]; exact PF.sto cZ.out aA.out rfl _ _)
    have dB:=hJ (PF.new eI.out dN.out)
    have dD:=hJ (show PF x57 bX bY bZ cA cB cC cD cE P4 Q4 by rw [←dY.out]; exact PF.sto dB.out aA.out rfl _ _)
    have pG:=hJ (show PF x57 s16 A16 n16 c16 t16 B16 m16 d16 P5 Q5 by rw [←dY.out]; exact PF.sto oW.out aA.out rfl _ _)
    have cQ:=hJ (PF.new eK.out dN.out)
    have dG:=hJ (show PF x57 aF aG aH aI aJ aK aL aM y6_10 z6_10 by rw [←dY.out]; exact PF.sto cQ.out aA.out rfl _ _)
    have aN:=hJ (show Below x1.heap.size x1 x57 by rw [←dY.out]; exact below_sto (bt aD.out dN.out) cN.out _ _)
    go_wp2_with fail
    clear oX oY oZ pA pB pC pD pE hE
    go_roundw
    case rel=>exact ⟨5+1,aO,aR,aS,aT,aU,aV,aW,aX,aY,aZ,bA,bB,bC,bD,bE,bF,bG,bH,bJ,bK,bL,bM,bN,bO,bP,bQ,bR,bS,bT,bU,bV,bW,bX,bY,bZ,cA,cB,cC,cD,cE,s16,A16,n16,c16,t16,B16,m16,d16,aF,aG,aH,aI,aJ,aK,aL,aM,P0,Q0,P1,Q1,P2,Q2,P3,Q3,P4,Q4,P5,Q5,y6_10,z6_10,by omega,by go_num,pF.out,dJ.out,cW.out,cY.out,dA.out,dD.out,pG.out,dG.out,hJ (⟨fun _=>⟨rfl,rfl,by first | rfl | trivial⟩,fun _=>⟨rfl,rfl,by first | rfl | trivial⟩,fun _=>⟨rfl,rfl,by first | rfl | trivial⟩,fun _=>⟨rfl,rfl,by first | rfl | trivial⟩,fun _=>⟨rfl,rfl,by first | rfl | trivial⟩,fun _=>⟨rfl,rfl,by first | rfl | trivial⟩,fun h=>absurd h (by decide)⟩),aN.out⟩
    case measure=>simp [intOf] <;> omega
   have hcz:(C5 == 0)=false:=by simp [hc]
   have HV:=hJ (show feV [0,0,0,0,0,C5,C6]=C5 from feV_n hc)
   have HN:=hJ hc
   clear hc
   have aA:=hJ (BX.new cO.out dN.out)
   have pH:=aA.out.frozen 20
   have pI:=aA.out.cell 20 rfl
   have pJ:=aA.out.frozen 21
   have pK:=aA.out.cell 21 rfl
   have pL:=aA.out.frozen 22
   have pM:=aA.out.cell 22 rfl
   have pN:=aA.out.frozen 23
   have pO:=aA.out.cell 23 rfl
   obtain ⟨x58,hF⟩:=nmz (World.setCell (World.setCell (World.setCell (World.setCell w56 ⟨x1.heap.size,20,none⟩ (.bool s16)) ⟨x1.heap.size,21,none⟩ (.slice A16 n16 c16)) ⟨x1.heap.size,22,none⟩ (.bool t16)) ⟨x1.heap.size,23,none⟩ (.slice B16 m16 d16))
   have hG:=hJ (show sto w56 x1.heap.size 20 [.bool s16,.slice A16 n16 c16,.bool t16,.slice B16 m16 d16]=x58 from hF)
   obtain ⟨x59,fJ⟩:=nmz (x58.alloc (.cells #[.bool false,.slice none 0 0,.bool false,.slice none 0 0] 35))
   have hH:=hJ (show Below x58.heap.size x58 x59 by rw [←fJ]; exact ((Below.refl _ _).alloc (Nat.le_refl _) _))
   have pP:=hJ (show BX 35 x59 x58.heap.size #[.bool false,.slice none 0 0,.bool false,.slice none 0 0] by rw [←fJ]; exact (BX.at rfl))
   obtain ⟨pQ,pR,pS,pT⟩:=pP.out.c4 0 1 2 3 rfl rfl rfl rfl
   have aN:=hJ (show Below x1.heap.size x1 x58 by rw [←hG.out]; exact below_sto (bt aD.out dN.out) cN.out _ _)
   have cR:=hJ (bt aN.out hH.out)
   have aC:=hJ (BX.new eB.out cR.out)
   have pU:=aC.out.frozen 0
   have pV:=aC.out.cell 0 rfl
   have pW:=aC.out.frozen 1
   have pX:=aC.out.cell 1 rfl
   have pY:=aC.out.frozen 2
   have pZ:=aC.out.cell 2 rfl
   have qA:=aC.out.frozen 3
   have qB:=aC.out.cell 3 rfl
   obtain ⟨x64,hI⟩:=nmz (World.setCell (World.setCell (World.setCell (World.setCell x59 ⟨w.heap.size+5,0,none⟩ (.bool false)) ⟨w.heap.size+5,1,none⟩ (.slice none 0 0)) ⟨w.heap.size+5,2,none⟩ (.bool false)) ⟨w.heap.size+5,3,none⟩ (.slice none 0 0))
   have hK:=hJ (show sto x59 (w.heap.size+5) 0 [.bool false,.slice none 0 0,.bool false,.slice none 0 0]=x64 from hI)
   have qC:=hJ (show BX 35 x64 (w.heap.size+5) #[.bool false,.slice none 0 0,.bool false,.slice none 0 0] by rw [←hK.out]; exact BX.put aC.out _ _)
   have cS:=hJ (show Below w.heap.size w x58 by rw [←hG.out]; exact below_sto (bt cP.out dN.out) (Nat.le_trans (dQ.out).size cN.out) _ _)
   have cT:=hJ (show Below w.heap.size w x64 by rw [←hK.out]; exact below_sto (bt cS.out hH.out) eC.out _ _)
   go_wp2
   clear pH pI pJ pK pL pM pN pO hF fJ pQ pR pS pT pU pV pW pX pY pZ qA qB hI
   exact bodyPost_ret (results_cell1 rfl _ _ _ _ _ _ _ rfl qC.out Tryz.underlying35 rfl F_size) rfl (by rw [HV.out,feP,feQ,if_neg HN.out,if_neg HN.out]; exact ⟨false,none,0,0,false,none,0,0,rfl,PF.zero _,cT.out⟩)
  ·(try rw [show ((6:Nat):Int)=6 from rfl])
   obtain rfl:P0=y0_10:=(aB.out.1 (by decide)).1.symm
   obtain rfl:Q0=z0_10:=(aB.out.1 (by decide)).2.1.symm
   obtain rfl:C0=0:=(aB.out.1 (by decide)).2.2
   obtain rfl:P1=y1_10:=(aB.out.2.1 (by decide)).1.symm
   obtain rfl:Q1=z1_10:=(aB.out.2.1 (by decide)).2.1.symm
   obtain rfl:C1=0:=(aB.out.2.1 (by decide)).2.2
   obtain rfl:P2=y2_10:=(aB.out.2.2.1 (by decide)).1.symm
   obtain rfl:Q2=z2_10:=(aB.out.2.2.1 (by decide)).2.1.symm
   obtain rfl:C2=0:=(aB.out.2.2.1 (by decide)).2.2
   obtain rfl:P3=y3_10:=(aB.out.2.2.2.1 (by decide)).1.symm
   obtain rfl:Q3=z3_10:=(aB.out.2.2.2.1 (by decide)).2.1.symm
   obtain rfl:C3=0:=(aB.out.2.2.2.1 (by decide)).2.2
   obtain rfl:P4=y4_10:=(aB.out.2.2.2.2.1 (by decide)).1.symm
   obtain rfl:Q4=z4_10:=(aB.out.2.2.2.2.1 (by decide)).2.1.symm
   obtain rfl:C4=0:=(aB.out.2.2.2.2.1 (by decide)).2.2
   obtain rfl:P5=y5_10:=(aB.out.2.2.2.2.2.1 (by decide)).1.symm
   obtain rfl:Q5=z5_10:=(aB.out.2.2.2.2.2.1 (by decide)).2.1.symm
   obtain rfl:C5=0:=(aB.out.2.2.2.2.2.1 (by decide)).2.2
   have hix:∀ wx,(Instr.index 200 (.agg #[.func (.func 139) #[] #[.pointer (some ⟨w.heap.size,0,none⟩),.pointer (some ⟨w.heap.size+3,0,none⟩),.pointer (some ⟨w.heap.size+2,0,none⟩)],.func (.func 140) #[] #[.pointer (some ⟨w.heap.size,0,none⟩),.pointer (some ⟨w.heap.size+4,0,none⟩),.pointer (some ⟨w.heap.size+2,0,none⟩)],.func (.func 141) #[] #[.pointer (some ⟨w.heap.size+1,0,none⟩),.pointer (some ⟨x1.heap.size,0,none⟩)],.func (.func 142) #[] #[.pointer (some ⟨w.heap.size,0,none⟩),.pointer (some ⟨w.heap.size+3,0,none⟩),.pointer (some ⟨w.heap.size+2,0,none⟩)],.func (.func 143) #[] #[.pointer (some ⟨w.heap.size,0,none⟩),.pointer (some ⟨w.heap.size+4,0,none⟩),.pointer (some ⟨w.heap.size+2,0,none⟩)],.func (.func 144) #[] #[.pointer (some ⟨w.heap.size+1,0,none⟩),.pointer (some ⟨x1.heap.size,0,none⟩)],.func (.func 145) #[] #[.pointer (some ⟨w.heap.size,0,none⟩),.pointer (some ⟨x1.heap.size,0,none⟩)]]) (.int .i64 6)).run Tryz.prog wx=.ok (.func (.func 145) #[] #[.pointer (some ⟨w.heap.size,0,none⟩),.pointer (some ⟨x1.heap.size,0,none⟩)]) wx:=fun wx=>gx7_6 wx
   have dR:=hJ (BX.new eS.out aD.out)
   go_wp2_with fail
   clear hix
   refine (fda7_any P2 Q2 P5 Q5 aO aR aS aT aU aV aW aX aY aZ bA bB bC bD bE bF bG bH bJ bK bL bM bN bO bP bQ bR bS bT bU bV bW bX bY bZ cA cB cC cD cE cF cG cH cI cJ cK cL cM aF aG aH aI aJ aK aL aM w.heap.size x1.heap.size wl10 dR.out cO.out eG.out eJ.out hW.out hX.out).mono ?_
   rw [eY.out.1,eY.out.2.1,eY.out.2.2]
   rintro e w65 ⟨s17,A17,n17,c17,t17,B17,m17,d17,rfl,hr17,hb⟩
   have dO:=hJ hb
   have qD:=hJ hr17
   clear hb hr17
   by_cases hc:C6=0
   ·obtain rfl:=hc
    have aA:=hJ (BX.new cO.out dO.out)
    have qE:=aA.out.frozen 24
    have qF:=aA.out.cell 24 rfl
    have qG:=aA.out.frozen 25
    have qH:=aA.out.cell 25 rfl
    have qI:=aA.out.frozen 26
    have qJ:=aA.out.cell 26 rfl
    have qK:=aA.out.frozen 27
    have qL:=aA.out.cell 27 rfl
    obtain ⟨x66,hL⟩:=nmz (World.setCell (World.setCell (World.setCell (World.setCell w65 ⟨x1.heap.size,24,none⟩ (.bool s17)) ⟨x1.heap.size,25,none⟩ (.slice A17 n17 c17)) ⟨x1.heap.size,26,none⟩ (.bool t17)) ⟨x1.heap.size,27,none⟩ (.slice B17 m17 d17))
    have dZ:=hJ (show sto w65 x1.heap.size 24 [.bool s17,.slice A17 n17 c17,.bool t17,.slice B17 m17 d17]=x66 from hL)
    have qM:=hJ (show BX 198 x66 x1.heap.size #[.bool aO,.slice aR aS aT,.bool aU,.slice aV aW aX,.bool aY,.slice aZ bA bB,.bool bC,.slice bD bE bF,.bool bG,.slice bH bJ bK,.bool bL,.slice bM bN bO,.bool bP,.slice bQ bR bS,.bool bT,.slice bU bV bW,.bool bX,.slice bY bZ cA,.bool cB,.slice cC cD cE,.bool cF,.slice cG cH cI,.bool cJ,.slice cK cL cM,.bool s17,.slice A17 n17 c17,.bool t17,.slice B17 m17 d17] by rw [←dZ.out]; exact BX.put aA.out _ _)
    have dI:=hJ (PF.new eE.out dO.out)
    have dJ:=hJ (show PF x66 aO aR aS aT aU aV aW aX P0 Q0 by rw [←dZ.out]; exact PF.sto dI.out aA.out rfl _ _)
    have cV:=hJ (PF.new eF.out dO.out)
    have cW:=hJ (show PF x66 aY aZ bA bB bC bD bE bF P1 Q1 by rw [←dZ.out]; exact PF.sto cV.out aA.out rfl _ _)
    have cX:=hJ (PF.new eG.out dO.out)
    have cY:=hJ (show PF x66 bG bH bJ bK bL bM bN bO P2 Q2 by rw [←dZ.out]; exact PF.sto cX.out aA.out rfl _ _)
    have cZ:=hJ (PF.new eH.out dO.out)
    have dA:=hJ (show PF x66 bP bQ bR bS bT bU bV bW P3 Q3 by rw [←dZ.out]; exact PF.sto cZ.out aA.out rfl _ _)
    have dB:=hJ (PF.new eI.out dO.out)
    have dD:=hJ (show PF x66 bX bY bZ cA cB cC cD cE P4 Q4 by rw [←dZ.out]; exact PF.sto dB.out aA.out rfl _ _)
    have dE:=hJ (PF.new eJ.out dO.out)
    have dF:=hJ (show PF x66 cF cG cH cI cJ cK cL cM P5 Q5 by rw [←dZ.out]; exact PF.sto dE.out aA.out rfl _ _)
    have qN:=hJ (show PF x66 s17 A17 n17 c17 t17 B17 m17 d17 P6 Q6 by rw [←dZ.out]; exact PF.sto qD.out aA.out rfl _ _)
    have aN:=hJ (show Below x1.heap.size x1 x66 by rw [←dZ.out]; exact below_sto (bt aD.out dO.out) cN.out _ _)
    go_wp2_with fail
    clear qE qF qG qH qI qJ qK qL hL
    go_roundw
    case rel=>exact ⟨6+1,aO,aR,aS,aT,aU,aV,aW,aX,aY,aZ,bA,bB,bC,bD,bE,bF,bG,bH,bJ,bK,bL,bM,bN,bO,bP,bQ,bR,bS,bT,bU,bV,bW,bX,bY,bZ,cA,cB,cC,cD,cE,cF,cG,cH,cI,cJ,cK,cL,cM,s17,A17,n17,c17,t17,B17,m17,d17,P0,Q0,P1,Q1,P2,Q2,P3,Q3,P4,Q4,P5,Q5,P6,Q6,by omega,by go_num,qM.out,dJ.out,cW.out,cY.out,dA.out,dD.out,dF.out,qN.out,hJ (⟨fun _=>⟨rfl,rfl,by first | rfl | trivial⟩,fun _=>⟨rfl,rfl,by first | rfl | trivial⟩,fun _=>⟨rfl,rfl,by first | rfl | trivial⟩,fun _=>⟨rfl,rfl,by first | rfl | trivial⟩,fun _=>⟨rfl,rfl,by first | rfl | trivial⟩,fun _=>⟨rfl,rfl,by first | rfl | trivial⟩,fun _=>⟨rfl,rfl,by first | rfl | trivial⟩⟩),aN.out⟩
    case measure=>simp [intOf] <;> omega
   have hcz:(C6 == 0)=false:=by simp [hc]
   have HV:=hJ (show feV [0,0,0,0,0,0,C6]=C6 from feV_n hc)
   have HN:=hJ hc
   clear hc
   have aA:=hJ (BX.new cO.out dO.out)
   have qO:=aA.out.frozen 24
   have qP:=aA.out.cell 24 rfl
   have qQ:=aA.out.frozen 25
   have qR:=aA.out.cell 25 rfl
   have qS:=aA.out.frozen 26
   have qT:=aA.out.cell 26 rfl
   have qU:=aA.out.frozen 27
   have qV:=aA.out.cell 27 rfl
   obtain ⟨x67,hM⟩:=nmz (World.setCell (World.setCell (World.setCell (World.setCell w65 ⟨x1.heap.size,24,none⟩ (.bool s17)) ⟨x1.heap.size,25,none⟩ (.slice A17 n17 c17)) ⟨x1.heap.size,26,none⟩ (.bool t17)) ⟨x1.heap.size,27,none⟩ (.slice B17 m17 d17))
   have hN:=hJ (show sto w65 x1.heap.size 24 [.bool s17,.slice A17 n17 c17,.bool t17,.slice B17 m17 d17]=x67 from hM)
   obtain ⟨x68,fK⟩:=nmz (x67.alloc (.cells #[.bool false,.slice none 0 0,.bool false,.slice none 0 0] 35))
   have hO:=hJ (show Below x67.heap.size x67 x68 by rw [←fK]; exact ((Below.refl _ _).alloc (Nat.le_refl _) _))
   have qW:=hJ (show BX 35 x68 x67.heap.size #[.bool false,.slice none 0 0,.bool false,.slice none 0 0] by rw [←fK]; exact (BX.at rfl))
   obtain ⟨qX,qY,qZ,rA⟩:=qW.out.c4 0 1 2 3 rfl rfl rfl rfl
   have aN:=hJ (show Below x1.heap.size x1 x67 by rw [←hN.out]; exact below_sto (bt aD.out dO.out) cN.out _ _)
   have cR:=hJ (bt aN.out hO.out)
   have aC:=hJ (BX.new eB.out cR.out)
   have rB:=aC.out.frozen 0
   have rC:=aC.out.cell 0 rfl
   have rD:=aC.out.frozen 1
   have rE:=aC.out.cell 1 rfl
   have rF:=aC.out.frozen 2
   have rG:=aC.out.cell 2 rfl
   have rH:=aC.out.frozen 3
   have rI:=aC.out.cell 3 rfl
   obtain ⟨x73,hP⟩:=nmz (World.setCell (World.setCell (World.setCell (World.setCell x68 ⟨w.heap.size+5,0,none⟩ (.bool false)) ⟨w.heap.size+5,1,none⟩ (.slice none 0 0)) ⟨w.heap.size+5,2,none⟩ (.bool false)) ⟨w.heap.size+5,3,none⟩ (.slice none 0 0))
   have hQ:=hJ (show sto x68 (w.heap.size+5) 0 [.bool false,.slice none 0 0,.bool false,.slice none 0 0]=x73 from hP)
   have rJ:=hJ (show BX 35 x73 (w.heap.size+5) #[.bool false,.slice none 0 0,.bool false,.slice none 0 0] by rw [←hQ.out]; exact BX.put aC.out _ _)
   have cS:=hJ (show Below w.heap.size w x67 by rw [←hN.out]; exact below_sto (bt cP.out dO.out) (Nat.le_trans (dQ.out).size cN.out) _ _)
   have cT:=hJ (show Below w.heap.size w x73 by rw [←hQ.out]; exact below_sto (bt cS.out hO.out) eC.out _ _)
   go_wp2
   clear qO qP qQ qR qS qT qU qV hM fK qX qY qZ rA rB rC rD rE rF rG rH rI hP
   exact bodyPost_ret (results_cell1 rfl _ _ _ _ _ _ _ rfl rJ.out Tryz.underlying35 rfl F_size) rfl (by rw [HV.out,feP,feQ,if_neg HN.out,if_neg HN.out]; exact ⟨false,none,0,0,false,none,0,0,rfl,PF.zero _,cT.out⟩)
  ·(try rw [show ((7:Nat):Int)=7 from rfl])
   obtain rfl:P0=y0_10:=(aB.out.1 (by decide)).1.symm
   obtain rfl:Q0=z0_10:=(aB.out.1 (by decide)).2.1.symm
   obtain rfl:C0=0:=(aB.out.1 (by decide)).2.2
   obtain rfl:P1=y1_10:=(aB.out.2.1 (by decide)).1.symm
   obtain rfl:Q1=z1_10:=(aB.out.2.1 (by decide)).2.1.symm
   obtain rfl:C1=0:=(aB.out.2.1 (by decide)).2.2
   obtain rfl:P2=y2_10:=(aB.out.2.2.1 (by decide)).1.symm
   obtain rfl:Q2=z2_10:=(aB.out.2.2.1 (by decide)).2.1.symm
   obtain rfl:C2=0:=(aB.out.2.2.1 (by decide)).2.2
   obtain rfl:P3=y3_10:=(aB.out.2.2.2.1 (by decide)).1.symm
   obtain rfl:Q3=z3_10:=(aB.out.2.2.2.1 (by decide)).2.1.symm
   obtain rfl:C3=0:=(aB.out.2.2.2.1 (by decide)).2.2
   obtain rfl:P4=y4_10:=(aB.out.2.2.2.2.1 (by decide)).1.symm
   obtain rfl:Q4=z4_10:=(aB.out.2.2.2.2.1 (by decide)).2.1.symm
   obtain rfl:C4=0:=(aB.out.2.2.2.2.1 (by decide)).2.2
   obtain rfl:P5=y5_10:=(aB.out.2.2.2.2.2.1 (by decide)).1.symm
   obtain rfl:Q5=z5_10:=(aB.out.2.2.2.2.2.1 (by decide)).2.1.symm
   obtain rfl:C5=0:=(aB.out.2.2.2.2.2.1 (by decide)).2.2
   obtain rfl:P6=y6_10:=(aB.out.2.2.2.2.2.2 (by decide)).1.symm
   obtain rfl:Q6=z6_10:=(aB.out.2.2.2.2.2.2 (by decide)).2.1.symm
   obtain rfl:C6=0:=(aB.out.2.2.2.2.2.2 (by decide)).2.2
   obtain ⟨rK,rL,rM,rN⟩:=cO.out.c4 24 25 26 27 rfl rfl rfl rfl
   have dP:=hJ (BX.new eB.out aD.out)
   have rO:=dP.out.frozen 0
   have rP:=dP.out.cell 0 rfl
   have rQ:=dP.out.frozen 1
   have rR:=dP.out.cell 1 rfl
   have rS:=dP.out.frozen 2
   have rT:=dP.out.cell 2 rfl
   have rU:=dP.out.frozen 3
   have rV:=dP.out.cell 3 rfl
   obtain ⟨x78,hR⟩:=nmz (World.setCell (World.setCell (World.setCell (World.setCell wl10 ⟨w.heap.size+5,0,none⟩ (.bool aF)) ⟨w.heap.size+5,1,none⟩ (.slice aG aH aI)) ⟨w.heap.size+5,2,none⟩ (.bool aJ)) ⟨w.heap.size+5,3,none⟩ (.slice aK aL aM))
   have fL:=hJ (show sto wl10 (w.heap.size+5) 0 [.bool aF,.slice aG aH aI,.bool aJ,.slice aK aL aM]=x78 from hR)
   have rW:=hJ (show BX 35 x78 (w.heap.size+5) #[.bool aF,.slice aG aH aI,.bool aJ,.slice aK aL aM] by rw [←fL.out]; exact BX.put dP.out _ _)
   have rX:=hJ (show Below w.heap.size w x78 by rw [←fL.out]; exact below_sto cP.out eC.out _ _)
   have cQ:=hJ (show PF x78 aF aG aH aI aJ aK aL aM P6 Q6 by rw [←fL.out]; exact PF.sto eK.out dP.out rfl _ _)
   go_wp2
   clear rK rL rM rN rO rP rQ rR rS rT rU rV hR
   exact bodyPost_ret (results_cell1 rfl _ _ _ _ _ _ _ rfl rW.out Tryz.underlying35 rfl F_size) rfl (by rw [show feV [0,0,0,0,0,0,0]=0 from rfl,feP,feQ,if_pos rfl,if_pos rfl]; exact ⟨aF,aG,aH,aI,aJ,aK,aL,aM,rfl,cQ.out,rX.out⟩)
theorem coords_any (s0:Bool) (A0:Option Addr) (n0 c0:Nat) (t0:Bool) (B0:Option Addr) (m0 d0:Nat) (s1:Bool) (A1:Option Addr) (n1 c1:Nat) (t1:Bool) (B1:Option Addr) (m1 d1:Nat) (w:World) :
  Calls Tryz.prog 103 #[.agg #[.bool s0,.slice A0 n0 c0,.bool t0,.slice B0 m0 d0,.bool s1,.slice A1 n1 c1,.bool t1,.slice B1 m1 d1]] w fun e w'=>e=.returned (.agg #[.bool s0,.slice A0 n0 c0,.bool t0,.slice B0 m0 d0,.bool s1,.slice A1 n1 c1,.bool t1,.slice B1 m1 d1])∧Below w.heap.size w w':=by
 obtain ⟨x1,aB⟩:=nmz ((w.alloc (.cells #[.bool s0,.slice A0 n0 c0,.bool t0,.slice B0 m0 d0,.bool s1,.slice A1 n1 c1,.bool t1,.slice B1 m1 d1] 37)).alloc (.cells #[.bool false,.slice none 0 0,.bool false,.slice none 0 0,.bool false,.slice none 0 0,.bool false,.slice none 0 0] 101))
 have aG:=hJ (show Below w.heap.size w x1 by rw [←aB]; exact (((Below.refl _ _).alloc (Nat.le_refl _) _).alloc (by simp only [World.size_alloc]; omega) _))
 have aC:=hJ (show BX 37 x1 w.heap.size #[.bool s0,.slice A0 n0 c0,.bool t0,.slice B0 m0 d0,.bool s1,.slice A1 n1 c1,.bool t1,.slice B1 m1 d1] by rw [←aB]; exact ((BX.at rfl).alloc _))
 have aA:=hJ (show BX 101 x1 (w.heap.size+1) #[.bool false,.slice none 0 0,.bool false,.slice none 0 0,.bool false,.slice none 0 0,.bool false,.slice none 0 0] by rw [←aB]; exact (BX.at (by simp only [World.size_alloc])))
 have aH:=hJ (show w.heap.size≤w.heap.size+1 by omega)
 obtain ⟨aI,aJ,aK,aL⟩:=aC.out.c4 0 1 2 3 rfl rfl rfl rfl
 obtain ⟨aM,aN,aO,aR⟩:=aC.out.c4 4 5 6 7 rfl rfl rfl rfl
 have aS:=aA.out.frozen 0
 have aT:=aA.out.cell 0 rfl
 have aU:=aA.out.frozen 1
 have aV:=aA.out.cell 1 rfl
 have aW:=aA.out.frozen 2
 have aX:=aA.out.cell 2 rfl
 have aY:=aA.out.frozen 3
 have aZ:=aA.out.cell 3 rfl
 have bA:=aA.out.frozen 4
 have bB:=aA.out.cell 4 rfl
 have bC:=aA.out.frozen 5
 have bD:=aA.out.cell 5 rfl
 have bE:=aA.out.frozen 6
 have bF:=aA.out.cell 6 rfl
 have bG:=aA.out.frozen 7
 have bH:=aA.out.cell 7 rfl
 obtain ⟨x10,aD⟩:=nmz (World.setCell (World.setCell (World.setCell (World.setCell (World.setCell (World.setCell (World.setCell (World.setCell x1 ⟨w.heap.size+1,0,none⟩ (.bool s0)) ⟨w.heap.size+1,1,none⟩ (.slice A0 n0 c0)) ⟨w.heap.size+1,2,none⟩ (.bool t0)) ⟨w.heap.size+1,3,none⟩ (.slice B0 m0 d0)) ⟨w.heap.size+1,4,none⟩ (.bool s1)) ⟨w.heap.size+1,5,none⟩ (.slice A1 n1 c1)) ⟨w.heap.size+1,6,none⟩ (.bool t1)) ⟨w.heap.size+1,7,none⟩ (.slice B1 m1 d1))
 have aF:=hJ (show sto x1 (w.heap.size+1) 0 [.bool s0,.slice A0 n0 c0,.bool t0,.slice B0 m0 d0,.bool s1,.slice A1 n1 c1,.bool t1,.slice B1 m1 d1]=x10 from aD)
 have bJ:=hJ (show BX 101 x10 (w.heap.size+1) #[.bool s0,.slice A0 n0 c0,.bool t0,.slice B0 m0 d0,.bool s1,.slice A1 n1 c1,.bool t1,.slice B1 m1 d1] by rw [←aF.out]; exact BX.put aA.out _ _)
 have bK:=hJ (show Below w.heap.size w x10 by rw [←aF.out]; exact below_sto aG.out aH.out _ _)
 go_enter Tryz.func103,Tryz.ntmps103
 go_wp2
 clear aB aI aJ aK aL aM aN aO aR aS aT aU aV aW aX aY aZ bA bB bC bD bE bF bG bH aD
 exact bodyPost_ret (results_cell_row rfl _ _ _ _ _ _ _ rfl bJ.out Tryz.underlying101 rfl F2_size) rfl ⟨rfl,bK.out⟩
theorem area_any (p0 q0 p1 q1 p2 q2 p3 q3 p4 q4 p5 q5 P0 Q0 C0 P1 Q1 C1 P2 Q2 C2 P3 Q3 C3 P4 Q4 C4 P5 Q5 C5 P6 Q6 C6:Int) (s0:Bool) (A0:Option Addr) (n0 c0:Nat) (t0:Bool) (B0:Option Addr) (m0 d0:Nat) (s1:Bool) (A1:Option Addr) (n1 c1:Nat) (t1:Bool) (B1:Option Addr) (m1 d1:Nat) (s2:Bool) (A2:Option Addr) (n2 c2:Nat) (t2:Bool) (B2:Option Addr) (m2 d2:Nat) (s3:Bool) (A3:Option Addr) (n3 c3:Nat) (t3:Bool) (B3:Option Addr) (m3 d3:Nat) (s4:Bool) (A4:Option Addr) (n4 c4:Nat) (t4:Bool) (B4:Option Addr) (m4 d4:Nat) (s5:Bool) (A5:Option Addr) (n5 c5:Nat) (t5:Bool) (B5:Option Addr) (m5 d5:Nat) (w:World) (h0:PF w s0 A0 n0 c0 t0 B0 m0 d0 p0 q0) (h1:PF w s1 A1 n1 c1 t1 B1 m1 d1 p1 q1) (h2:PF w s2 A2 n2 c2 t2 B2 m2 d2 p2 q2) (h3:PF w s3 A3 n3 c3 t3 B3 m3 d3 p3 q3) (h4:PF w s4 A4 n4 c4 t4 B4 m4 d4 p4 q4) (h5:PF w s5 A5 n5 c5 t5 B5 m5 d5 p5 q5) (f0:Fr p0 q0) (f1:Fr p1 q1) (f2:Fr p2 q2) (f3:Fr p3 q3) (f4:Fr p4 q4) (f5:Fr p5 q5) (e0:adP p2 q2 (-p0) q0=P0∧adQ p2 q2 (-p0) q0=Q0∧adC p2 q2 (-p0) q0=C0) (e1:adP p5 q5 (-p1) q1=P1∧adQ p5 q5 (-p1) q1=Q1∧adC p5 q5 (-p1) q1=C1) (e2:muP P0 Q0 P1 Q1=P2∧muQ P0 Q0 P1 Q1=Q2∧muC P0 Q0 P1 Q1=C2) (e3:adP p3 q3 (-p1) q1=P3∧adQ p3 q3 (-p1) q1=Q3∧adC p3 q3 (-p1) q1=C3) (e4:adP p4 q4 (-p0) q0=P4∧adQ p4 q4 (-p0) q0=Q4∧adC p4 q4 (-p0) q0=C4) (e5:muP P3 Q3 P4 Q4=P5∧muQ P3 Q3 P4 Q4=Q5∧muC P3 Q3 P4 Q4=C5) (e6:adP P2 Q2 (-P5) Q5=P6∧adQ P2 Q2 (-P5) Q5=Q6∧adC P2 Q2 (-P5) Q5=C6) :
  Calls Tryz.prog 70 #[.agg #[.bool s0,.slice A0 n0 c0,.bool t0,.slice B0 m0 d0,.bool s1,.slice A1 n1 c1,.bool t1,.slice B1 m1 d1],.agg #[.bool s2,.slice A2 n2 c2,.bool t2,.slice B2 m2 d2,.bool s3,.slice A3 n3 c3,.bool t3,.slice B3 m3 d3],.agg #[.bool s4,.slice A4 n4 c4,.bool t4,.slice B4 m4 d4,.bool s5,.slice A5 n5 c5,.bool t5,.slice B5 m5 d5]] w (RetFE (feP (feV [C0,C1,C2,C3,C4,C5,C6]) P6) (feQ (feV [C0,C1,C2,C3,C4,C5,C6]) Q6) (feV [C0,C1,C2,C3,C4,C5,C6]) w):=by
 have aT:=hJ h0
 have aU:=hJ h1
 have aV:=hJ h2
 have aW:=hJ h3
 have aX:=hJ h4
 have aY:=hJ h5
 clear h0 h1 h2 h3 h4 h5
 obtain ⟨x1,aM⟩:=nmz ((((w.alloc (.cells #[.bool s0,.slice A0 n0 c0,.bool t0,.slice B0 m0 d0,.bool s1,.slice A1 n1 c1,.bool t1,.slice B1 m1 d1] 37)).alloc (.cells #[.bool s2,.slice A2 n2 c2,.bool t2,.slice B2 m2 d2,.bool s3,.slice A3 n3 c3,.bool t3,.slice B3 m3 d3] 37)).alloc (.cells #[.bool s4,.slice A4 n4 c4,.bool t4,.slice B4 m4 d4,.bool s5,.slice A5 n5 c5,.bool t5,.slice B5 m5 d5] 37)).alloc (.cells #[.bool false,.slice none 0 0,.bool false,.slice none 0 0] 35))
 have aB:=hJ (show Below w.heap.size w x1 by rw [←aM]; exact (((((Below.refl _ _).alloc (Nat.le_refl _) _).alloc (by simp only [World.size_alloc]; omega) _).alloc (by simp only [World.size_alloc]; omega) _).alloc (by simp only [World.size_alloc]; omega) _))
 have aC:=hJ (show BX 37 x1 w.heap.size #[.bool s0,.slice A0 n0 c0,.bool t0,.slice B0 m0 d0,.bool s1,.slice A1 n1 c1,.bool t1,.slice B1 m1 d1] by rw [←aM]; exact ((((BX.at rfl).alloc _).alloc _).alloc _))
 have aD:=hJ (show BX 37 x1 (w.heap.size+1) #[.bool s2,.slice A2 n2 c2,.bool t2,.slice B2 m2 d2,.bool s3,.slice A3 n3 c3,.bool t3,.slice B3 m3 d3] by rw [←aM]; exact (((BX.at (by simp only [World.size_alloc])).alloc _).alloc _))
 have aF:=hJ (show BX 37 x1 (w.heap.size+2) #[.bool s4,.slice A4 n4 c4,.bool t4,.slice B4 m4 d4,.bool s5,.slice A5 n5 c5,.bool t5,.slice B5 m5 d5] by rw [←aM]; exact ((BX.at (by simp only [World.size_alloc])).alloc _))
 have aZ:=hJ (show BX 35 x1 (w.heap.size+3) #[.bool false,.slice none 0 0,.bool false,.slice none 0 0] by rw [←aM]; exact (BX.at (by simp only [World.size_alloc])))
 have aO:=hJ (show w.heap.size≤w.heap.size+3 by omega)
 have aN:Hid (∀ w',Below x1.heap.size x1 w'→(fun w':World=>w'.cell? ⟨w.heap.size,0,none⟩=some (.bool s0)∧w'.cell? ⟨w.heap.size,1,none⟩=some (.slice A0 n0 c0)∧w'.cell? ⟨w.heap.size,2,none⟩=some (.bool t0)∧w'.cell? ⟨w.heap.size,3,none⟩=some (.slice B0 m0 d0)∧w'.cell? ⟨w.heap.size,4,none⟩=some (.bool s1)∧w'.cell? ⟨w.heap.size,5,none⟩=some (.slice A1 n1 c1)∧w'.cell? ⟨w.heap.size,6,none⟩=some (.bool t1)∧w'.cell? ⟨w.heap.size,7,none⟩=some (.slice B1 m1 d1)∧w'.cell? ⟨w.heap.size+1,0,none⟩=some (.bool s2)∧w'.cell? ⟨w.heap.size+1,1,none⟩=some (.slice A2 n2 c2)∧w'.cell? ⟨w.heap.size+1,2,none⟩=some (.bool t2)∧w'.cell? ⟨w.heap.size+1,3,none⟩=some (.slice B2 m2 d2)∧w'.cell? ⟨w.heap.size+1,4,none⟩=some (.bool s3)∧w'.cell? ⟨w.heap.size+1,5,none⟩=some (.slice A3 n3 c3)∧w'.cell? ⟨w.heap.size+1,6,none⟩=some (.bool t3)∧w'.cell? ⟨w.heap.size+1,7,none⟩=some (.slice B3 m3 d3)∧w'.cell? ⟨w.heap.size+2,0,none⟩=some (.bool s4)∧w'.cell? ⟨w.heap.size+2,1,none⟩=some (.slice A4 n4 c4)∧w'.cell? ⟨w.heap.size+2,2,none⟩=some (.bool t4)∧w'.cell? ⟨w.heap.size+2,3,none⟩=some (.slice B4 m4 d4)∧w'.cell? ⟨w.heap.size+2,4,none⟩=some (.bool s5)∧w'.cell? ⟨w.heap.size+2,5,none⟩=some (.slice A5 n5 c5)∧w'.cell? ⟨w.heap.size+2,6,none⟩=some (.bool t5)∧w'.cell? ⟨w.heap.size+2,7,none⟩=some (.slice B5 m5 d5)∧Below w.heap.size w w') w'):=hJ (fun w' hb=>⟨(BX.new aC.out hb).cell 0 rfl,(BX.new aC.out hb).cell 1 rfl,(BX.new aC.out hb).cell 2 rfl,(BX.new aC.out hb).cell 3 rfl,(BX.new aC.out hb).cell 4 rfl,(BX.new aC.out hb).cell 5 rfl,(BX.new aC.out hb).cell 6 rfl,(BX.new aC.out hb).cell 7 rfl,(BX.new aD.out hb).cell 0 rfl,(BX.new aD.out hb).cell 1 rfl,(BX.new aD.out hb).cell 2 rfl,(BX.new aD.out hb).cell 3 rfl,(BX.new aD.out hb).cell 4 rfl,(BX.new aD.out hb).cell 5 rfl,(BX.new aD.out hb).cell 6 rfl,(BX.new aD.out hb).cell 7 rfl,(BX.new aF.out hb).cell 0 rfl,(BX.new aF.out hb).cell 1 rfl,(BX.new aF.out hb).cell 2 rfl,(BX.new aF.out hb).cell 3 rfl,(BX.new aF.out hb).cell 4 rfl,(BX.new aF.out hb).cell 5 rfl,(BX.new aF.out hb).cell 6 rfl,(BX.new aF.out hb).cell 7 rfl,(bt aB.out hb)⟩)
 have bA:=hJ (PF.new aT.out aB.out)
 have bB:=hJ (PF.new aU.out aB.out)
 have bC:=hJ (PF.new aV.out aB.out)
 have bD:=hJ (PF.new aW.out aB.out)
 have bE:=hJ (PF.new aX.out aB.out)
 have bF:=hJ (PF.new aY.out aB.out)
 go_enter Tryz.func70,Tryz.ntmps70
 go_wp2_with fail
 clear aM
 obtain ⟨v2,hv2⟩:=nmz (World.drew x1)
 have bG:=hJ (show Below x1.heap.size x1 v2 by rw [←hv2]; exact (Below.refl _ _).drew)
 refine whd aN hv2 (fun hHeld=>?_)
 clear hv2
 refine tq 0 ?_
 refine tq 2 ?_
 refine tq 4 ?_
 try simp only [PT]
 refine ryy [1] ?_
 refine .cons rfl (fun K hK=>?_) .nil
 go_simp
 go_at_call 103
 refine (coords_any s0 A0 n0 c0 t0 B0 m0 d0 s1 A1 n1 c1 t1 B1 m1 d1 v2).mono ?_
 rintro e v3 ⟨rfl,hb⟩
 have bH:=hJ hb
 clear hb
 go_wp2_with fail
 have aR:=hJ (bt bG.out bH.out)
 clear hHeld
 refine hK.out _ _ (aN.out _ aR.out) (fun hHeld=>?_)
 clear hK K
 try simp only [PT]
 refine ryy [3] ?_
 refine .cons rfl (fun K hK=>?_) .nil
 go_simp
 go_at_call 103
 refine (coords_any s2 A2 n2 c2 t2 B2 m2 d2 s3 A3 n3 c3 t3 B3 m3 d3 v3).mono ?_
 rintro e v4 ⟨rfl,hb⟩
 have bJ:=hJ hb
 clear hb
 go_wp2_with fail
 have aS:=hJ (bt aR.out bJ.out)
 clear hHeld
 refine hK.out _ _ (aN.out _ aS.out) (fun hHeld=>?_)
 clear hK K
 try simp only [PT]
 refine ryy [5] ?_
 refine .cons rfl (fun K hK=>?_) .nil
 go_simp
 go_at_call 103
 refine (coords_any s4 A4 n4 c4 t4 B4 m4 d4 s5 A5 n5 c5 t5 B5 m5 d5 v4).mono ?_
 rintro e v5 ⟨rfl,hb⟩
 have bK:=hJ hb
 clear hb
 go_wp2_with fail
 have aG:=hJ (bt aS.out bK.out)
 clear hHeld
 refine hK.out _ _ (aN.out _ aG.out) (fun hHeld=>?_)
 clear hK K
 try simp only [PT]
 refine ryy [6] ?_
 refine .cons rfl (fun K hK=>?_) .nil
 go_simp
 go_at_call 101
 refine (fdarea_any p0 q0 p1 q1 p2 q2 p3 q3 p4 q4 p5 q5 P0 Q0 C0 P1 Q1 C1 P2 Q2 C2 P3 Q3 C3 P4 Q4 C4 P5 Q5 C5 P6 Q6 C6 s0 A0 n0 c0 t0 B0 m0 d0 s1 A1 n1 c1 t1 B1 m1 d1 s2 A2 n2 c2 t2 B2 m2 d2 s3 A3 n3 c3 t3 B3 m3 d3 s4 A4 n4 c4 t4 B4 m4 d4 s5 A5 n5 c5 t5 B5 m5 d5 v5 (PF.new bA.out aG.out) (PF.new bB.out aG.out) (PF.new bC.out aG.out) (PF.new bD.out aG.out) (PF.new bE.out aG.out) (PF.new bF.out aG.out) f0 f1 f2 f3 f4 f5 e0 e1 e2 e3 e4 e5 e6).mono ?_
 rintro e v6 ⟨s11,A11,n11,c11,t11,B11,m11,d11,rfl,hr11,hb⟩
 have bL:=hJ hb
 have bM:=hJ hr11
 clear hb hr11
 go_wp2_with fail
 have aK:=hJ (bt aG.out bL.out)
 clear hHeld
 refine hK.out _ _ (aN.out _ aK.out) (fun hHeld=>?_)
 clear hK K
 refine tq 7 ?_
 refine tq 8 ?_
 try simp only [PT]
 refine ryy [9] ?_
 refine .cons rfl (fun K hK=>?_) .nil
 have aA:=hJ (BX.new aZ.out aK.out)
 have z7_0:=aA.out.cell 0 rfl
 have y7_0:=aA.out.frozen 0
 have z7_1:=aA.out.cell 1 rfl
 have y7_1:=aA.out.frozen 1
 have z7_2:=aA.out.cell 2 rfl
 have y7_2:=aA.out.frozen 2
 have z7_3:=aA.out.cell 3 rfl
 have y7_3:=aA.out.frozen 3
 have z7:=aA.out.lt
 go_simp
 obtain ⟨v7,hV⟩:=nmz (World.setCell (World.setCell (World.setCell (World.setCell v6 ⟨w.heap.size+3,0,none⟩ (.bool s11)) ⟨w.heap.size+3,1,none⟩ (.slice A11 n11 c11)) ⟨w.heap.size+3,2,none⟩ (.bool t11)) ⟨w.heap.size+3,3,none⟩ (.slice B11 m11 d11))
 rw [hV]
 have aL:=hJ (show sto v6 (w.heap.size+3) 0 [.bool s11,.slice A11 n11 c11,.bool t11,.slice B11 m11 d11]=v7 from hV)
 clear hV z7 z7_0 y7_0 z7_1 y7_1 z7_2 y7_2 z7_3 y7_3
 have bN:=hJ (show Below w.heap.size w v7 by rw [←aL.out]; exact below_sto (bt aB.out aK.out) aO.out _ _)
 have aH:=hJ (show BX 37 v7 w.heap.size #[.bool s0,.slice A0 n0 c0,.bool t0,.slice B0 m0 d0,.bool s1,.slice A1 n1 c1,.bool t1,.slice B1 m1 d1] by rw [←aL.out]; exact BX.far (BX.new aC.out aK.out) (show w.heap.size≠w.heap.size+3 by omega) _ _)
 have aI:=hJ (show BX 37 v7 (w.heap.size+1) #[.bool s2,.slice A2 n2 c2,.bool t2,.slice B2 m2 d2,.bool s3,.slice A3 n3 c3,.bool t3,.slice B3 m3 d3] by rw [←aL.out]; exact BX.far (BX.new aD.out aK.out) (show w.heap.size+1≠w.heap.size+3 by omega) _ _)
 have aJ:=hJ (show BX 37 v7 (w.heap.size+2) #[.bool s4,.slice A4 n4 c4,.bool t4,.slice B4 m4 d4,.bool s5,.slice A5 n5 c5,.bool t5,.slice B5 m5 d5] by rw [←aL.out]; exact BX.far (BX.new aF.out aK.out) (show w.heap.size+2≠w.heap.size+3 by omega) _ _)
 clear hHeld
 refine hK.out _ _ (⟨aH.out.cell 0 rfl,aH.out.cell 1 rfl,aH.out.cell 2 rfl,aH.out.cell 3 rfl,aH.out.cell 4 rfl,aH.out.cell 5 rfl,aH.out.cell 6 rfl,aH.out.cell 7 rfl,aI.out.cell 0 rfl,aI.out.cell 1 rfl,aI.out.cell 2 rfl,aI.out.cell 3 rfl,aI.out.cell 4 rfl,aI.out.cell 5 rfl,aI.out.cell 6 rfl,aI.out.cell 7 rfl,aJ.out.cell 0 rfl,aJ.out.cell 1 rfl,aJ.out.cell 2 rfl,aJ.out.cell 3 rfl,aJ.out.cell 4 rfl,aJ.out.cell 5 rfl,aJ.out.cell 6 rfl,aJ.out.cell 7 rfl,bN.out⟩) (fun hHeld=>?_)
 clear hK K
 refine tq 10 ?_
 try simp only [PT]
 refine wpAnyH_done (by kernel_rfl) ?_ _
 clear hHeld
 have bO:=hJ (show BX 35 v7 (w.heap.size+3) #[.bool s11,.slice A11 n11 c11,.bool t11,.slice B11 m11 d11] by rw [←aL.out]; exact BX.put aA.out _ _)
 have bP:=hJ (show Below w.heap.size w v7 by rw [←aL.out]; exact below_sto (bt aB.out aK.out) aO.out _ _)
 have bQ:=hJ (show PF v7 s11 A11 n11 c11 t11 B11 m11 d11 (feP (feV [C0,C1,C2,C3,C4,C5,C6]) P6) (feQ (feV [C0,C1,C2,C3,C4,C5,C6]) Q6) by rw [←aL.out]; exact PF.sto bM.out aA.out rfl _ _)
 go_wp2
 exact bodyPost_ret (results_cell1 rfl _ _ _ _ _ _ _ rfl bO.out Tryz.underlying35 rfl F_size) rfl ⟨s11,A11,n11,c11,t11,B11,m11,d11,rfl,bQ.out,bP.out⟩
end Go.Proofs.YtagakcficjcfhaaGreat
