/- Rows of the call's own: stores into them. Conditions: as each statement has them. -/
import Derived.Test.YteggneaefggbmaaGreatAE
import Derived.Test.YteggneaefggbmaaGreatQL
import Derived.Laws.EntriesVeiled
namespace Go.Proofs.YteggneaefggbmaaGreat
set_option maxRecDepth 100000
set_option maxHeartbeats 12800000
open Go.RowKit
attribute [local go_sem ↓] Go.wp_at_zero Go.wp_at_succ
set_option linter.unusedVariables false
set_option linter.unusedSimpArgs false
theorem OwnR.news {okv:Value→Bool} {w:World} {base:Nat} {e:TypeId} {size n g cap:Nat} {xs:List Value} (h:OwnR okv w base e size (.slice (some ⟨g,0,none⟩) n cap) n xs):∀ j u,xs[j]?=some u→w.cell? ((⟨g,0,none⟩:Addr).add j)=some u:=fun j u hu=>h.1.cells (g:=g) rfl j u hu
theorem OwnR.blk {okv:Value→Bool} {w:World} {base:Nat} {e:TypeId} {size n g cap:Nat} {xs:List Value} (h:OwnR okv w base e size (.slice (some ⟨g,0,none⟩) n cap) n xs):∃ cur,BX e w g cur∧cur.toList.take (n*size)=xs∧base≤g∧n≤cap∧cap≤maxLen∧cur.size=cap*size∧cur.toList.all okv=true:=by
 obtain ⟨⟨h1,h2⟩,h3⟩:=h
 rcases h2 with ⟨h0,_⟩ | ⟨g',cap',cur,hv,hb,hg,c1,c2,c3,c4⟩
 ·cases h0
 ·cases hv
  exact ⟨cur,hg,c4,hb,c1,c2,c3,h3 g cur rfl hg⟩
theorem OwnR.frz {okv:Value→Bool} {w:World} {base:Nat} {e:TypeId} {size n g cap:Nat} {xs:List Value} (h:OwnR okv w base e size (.slice (some ⟨g,0,none⟩) n cap) n xs) (o:Nat):w.frozen? ⟨g,o,none⟩=false:=by
 obtain ⟨cur,hg,_⟩:=h.blk
 exact hg.frozen o
theorem OwnR.put1 {okv:Value→Bool} {w:World} {base:Nat} {e:TypeId} {size n g cap:Nat} {xs:List Value} (h:OwnR okv w base e size (.slice (some ⟨g,0,none⟩) n cap) n xs) (o:Nat) (u:Value) (hu:okv u=true):OwnR okv (w.setCell ⟨g,o,none⟩ u) base e size (.slice (some ⟨g,0,none⟩) n cap) n (xs.set o u):=by
 obtain ⟨cur,hg,c4,hb,c1,c2,c3,ho⟩:=h.blk
 have hl:=h.1.1
 have hn:=hg.put1 o u
 refine ⟨⟨by rw [List.length_set]; exact hl,.inr ⟨g,cap,cur.setIfInBounds o u,rfl,hb,hn,c1,c2,by rw [Array.size_setIfInBounds]; exact c3,by rw [Array.toList_setIfInBounds,List.take_set,c4]⟩⟩,fun g' cur' hg' hc=>?_⟩
 simp only [Value.ownBlock,Option.some.injEq] at hg'
 subst hg'
 unfold BX at hn
 rw [hn] at hc
 injection hc with hc
 injection hc with h1
 subst h1
 rw [Array.toList_setIfInBounds,List.all_eq_true]
 intro x hx
 rcases List.mem_or_eq_of_mem_set hx with hx | rfl
 ·exact List.all_eq_true.1 ho x hx
 ·exact hu
/-- A list with elements replaced. -/
def setL (xs:List Value):Nat→List Value→List Value
 | _,[]=>xs
 | o,v :: l=>setL (xs.set o v) (o+1) l
theorem OwnR.sto {okv:Value→Bool} {w:World} {base:Nat} {e:TypeId} {size n g cap:Nat} {xs:List Value} (h:OwnR okv w base e size (.slice (some ⟨g,0,none⟩) n cap) n xs) (o:Nat) (vs:List Value) (hv:vs.all okv=true):OwnR okv (sto w g o vs) base e size (.slice (some ⟨g,0,none⟩) n cap) n (setL xs o vs):=by
 induction vs generalizing w xs o with
 | nil=>exact h
 | cons v l ih =>
  rw [List.all_cons,Bool.and_eq_true] at hv
  exact ih (h.put1 o v hv.1) (o+1) hv.2
def feP (c P:Int):Int:=if c=0 then P else 0
def feQ (c Q:Int):Int:=if c=0 then Q else 1
theorem feV_n {c:Int} {l:List Int} (h:c≠0):feV (c :: l)=c:=if_neg h
theorem F2_size:(Tryz.prog.info? 134).map (·.size)=some 8:=by kernel_rfl
theorem gx7_0 {v0 v1 v2 v3 v4 v5 v6:Value} (wx:World):(Instr.index 229 (.agg #[v0,v1,v2,v3,v4,v5,v6]) (.int .i64 0)).run Tryz.prog wx=.ok v0 wx:=by
 first
  | kernel_rfl
  | simp [Instr.index,run_underlying Tryz.underlying229,asIntOf,go_sem]
theorem gx7_1 {v0 v1 v2 v3 v4 v5 v6:Value} (wx:World):(Instr.index 229 (.agg #[v0,v1,v2,v3,v4,v5,v6]) (.int .i64 1)).run Tryz.prog wx=.ok v1 wx:=by
 first
  | kernel_rfl
  | simp [Instr.index,run_underlying Tryz.underlying229,asIntOf,go_sem]
theorem gx7_2 {v0 v1 v2 v3 v4 v5 v6:Value} (wx:World):(Instr.index 229 (.agg #[v0,v1,v2,v3,v4,v5,v6]) (.int .i64 2)).run Tryz.prog wx=.ok v2 wx:=by
 first
  | kernel_rfl
  | simp [Instr.index,run_underlying Tryz.underlying229,asIntOf,go_sem]
theorem gx7_3 {v0 v1 v2 v3 v4 v5 v6:Value} (wx:World):(Instr.index 229 (.agg #[v0,v1,v2,v3,v4,v5,v6]) (.int .i64 3)).run Tryz.prog wx=.ok v3 wx:=by
 first
  | kernel_rfl
  | simp [Instr.index,run_underlying Tryz.underlying229,asIntOf,go_sem]
theorem gx7_4 {v0 v1 v2 v3 v4 v5 v6:Value} (wx:World):(Instr.index 229 (.agg #[v0,v1,v2,v3,v4,v5,v6]) (.int .i64 4)).run Tryz.prog wx=.ok v4 wx:=by
 first
  | kernel_rfl
  | simp [Instr.index,run_underlying Tryz.underlying229,asIntOf,go_sem]
theorem gx7_5 {v0 v1 v2 v3 v4 v5 v6:Value} (wx:World):(Instr.index 229 (.agg #[v0,v1,v2,v3,v4,v5,v6]) (.int .i64 5)).run Tryz.prog wx=.ok v5 wx:=by
 first
  | kernel_rfl
  | simp [Instr.index,run_underlying Tryz.underlying229,asIntOf,go_sem]
theorem gx7_6 {v0 v1 v2 v3 v4 v5 v6:Value} (wx:World):(Instr.index 229 (.agg #[v0,v1,v2,v3,v4,v5,v6]) (.int .i64 6)).run Tryz.prog wx=.ok v6 wx:=by
 first
  | kernel_rfl
  | simp [Instr.index,run_underlying Tryz.underlying229,asIntOf,go_sem]
theorem fda1_any (p q r s:Int) (s0:Bool) (A0:Option Addr) (n0 c0:Nat) (t0:Bool) (B0:Option Addr) (m0 d0:Nat) (s1:Bool) (A1:Option Addr) (n1 c1:Nat) (t1:Bool) (B1:Option Addr) (m1 d1:Nat) (s2:Bool) (A2:Option Addr) (n2 c2:Nat) (t2:Bool) (B2:Option Addr) (m2 d2:Nat) (s3:Bool) (A3:Option Addr) (n3 c3:Nat) (t3:Bool) (B3:Option Addr) (m3 d3:Nat) (gf gb ga:Nat) (w:World) (hf:BX 74 w gf #[.func (.func 99) #[] #[]]) (hb0:BX 134 w gb #[.bool s0,.slice A0 n0 c0,.bool t0,.slice B0 m0 d0,.bool s1,.slice A1 n1 c1,.bool t1,.slice B1 m1 d1]) (ha0:BX 134 w ga #[.bool s2,.slice A2 n2 c2,.bool t2,.slice B2 m2 d2,.bool s3,.slice A3 n3 c3,.bool t3,.slice B3 m3 d3]) (hx:PF w s0 A0 n0 c0 t0 B0 m0 d0 p q) (hy:PF w s2 A2 n2 c2 t2 B2 m2 d2 r s) (fx:Fr p q) (fy:Fr r s) :
  Calls Tryz.prog 163 #[.pointer (some ⟨gf,0,none⟩),.pointer (some ⟨gb,0,none⟩),.pointer (some ⟨ga,0,none⟩)] w (RetFE (adP p q (-r) s) (adQ p q (-r) s) (adC p q (-r) s) w):=by
 have HF:=hJ hf
 have HB:=hJ hb0
 have HA:=hJ ha0
 have HX:=hJ hx
 have HY:=hJ hy
 have aC:=hJ fx
 have aD:=hJ fy
 clear hf hb0 hx hy fx fy ha0
 obtain ⟨x1,aE⟩:=nmz (w.alloc (.cells #[.bool false,.slice none 0 0,.bool false,.slice none 0 0] 27))
 have aB:=hJ (show Below w.heap.size w x1 by rw [←aE]; exact ((Below.refl _ _).alloc (Nat.le_refl _) _))
 have aI:=hJ (show BX 27 x1 w.heap.size #[.bool false,.slice none 0 0,.bool false,.slice none 0 0] by rw [←aE]; exact (BX.at rfl))
 have aJ:=hJ (show w.heap.size≤w.heap.size by omega)
 have aK:=hJ (BX.new HF.out aB.out)
 have aL:=aK.out.cell 0 rfl
 have aM:=hJ (BX.new HB.out aB.out)
 obtain ⟨aN,aO,aP,aQ⟩:=aM.out.c4 0 1 2 3 rfl rfl rfl rfl
 have aR:=hJ (BX.new HA.out aB.out)
 obtain ⟨aS,aT,aU,aV⟩:=aR.out.c4 0 1 2 3 rfl rfl rfl rfl
 have aW:=hJ (PF.new HX.out aB.out)
 have aX:=hJ (PF.new HY.out aB.out)
 go_enter Tryz.func163,Tryz.ntmps163
 go_wp2_with fail
 clear aE aL aN aO aP aQ aS aT aU aV
 refine (fsub_any p q r s s0 t0 s2 t2 A0 B0 A2 B2 n0 c0 m0 d0 n2 c2 m2 d2 x1 aW.out aX.out aC.out.1.1 aD.out.1.1 aC.out.2.1 aC.out.2.2 aD.out.2.1 aD.out.2.2).mono ?_
 rintro e w11 ⟨s11,A11,n11,c11,t11,B11,m11,d11,rfl,hr11,hb⟩
 have aG:=hJ hb
 have aY:=hJ hr11
 clear hb hr11
 have aA:=hJ (BX.new aI.out aG.out)
 have aZ:=aA.out.frozen 0
 have bA:=aA.out.cell 0 rfl
 have bB:=aA.out.frozen 1
 have bC:=aA.out.cell 1 rfl
 have bD:=aA.out.frozen 2
 have bE:=aA.out.cell 2 rfl
 have bF:=aA.out.frozen 3
 have bG:=aA.out.cell 3 rfl
 obtain ⟨x12,aH⟩:=nmz (World.setCell (World.setCell (World.setCell (World.setCell w11 ⟨w.heap.size,0,none⟩ (.bool s11)) ⟨w.heap.size,1,none⟩ (.slice A11 n11 c11)) ⟨w.heap.size,2,none⟩ (.bool t11)) ⟨w.heap.size,3,none⟩ (.slice B11 m11 d11))
 have aF:=hJ (show sto w11 w.heap.size 0 [.bool s11,.slice A11 n11 c11,.bool t11,.slice B11 m11 d11]=x12 from aH)
 have bH:=hJ (show BX 27 x12 w.heap.size #[.bool s11,.slice A11 n11 c11,.bool t11,.slice B11 m11 d11] by rw [←aF.out]; exact BX.put aA.out _ _)
 have bJ:=hJ (show Below w.heap.size w x12 by rw [←aF.out]; exact below_sto (bt aB.out aG.out) aJ.out _ _)
 have bK:=hJ (show PF x12 s11 A11 n11 c11 t11 B11 m11 d11 (adP p q (-r) s) (adQ p q (-r) s) by rw [←aF.out]; exact PF.sto aY.out aA.out rfl _ _)
 go_wp2
 clear aZ bA bB bC bD bE bF bG aH
 exact bodyPost_ret (results_cell1 rfl _ _ _ _ _ _ _ rfl bH.out Tryz.underlying27 rfl F_size) rfl ⟨s11,A11,n11,c11,t11,B11,m11,d11,rfl,bK.out,bJ.out⟩
theorem fda2_any (p q r s:Int) (s0:Bool) (A0:Option Addr) (n0 c0:Nat) (t0:Bool) (B0:Option Addr) (m0 d0:Nat) (s1:Bool) (A1:Option Addr) (n1 c1:Nat) (t1:Bool) (B1:Option Addr) (m1 d1:Nat) (s2:Bool) (A2:Option Addr) (n2 c2:Nat) (t2:Bool) (B2:Option Addr) (m2 d2:Nat) (s3:Bool) (A3:Option Addr) (n3 c3:Nat) (t3:Bool) (B3:Option Addr) (m3 d3:Nat) (gf gb ga:Nat) (w:World) (hf:BX 74 w gf #[.func (.func 99) #[] #[]]) (hb0:BX 134 w gb #[.bool s0,.slice A0 n0 c0,.bool t0,.slice B0 m0 d0,.bool s1,.slice A1 n1 c1,.bool t1,.slice B1 m1 d1]) (ha0:BX 134 w ga #[.bool s2,.slice A2 n2 c2,.bool t2,.slice B2 m2 d2,.bool s3,.slice A3 n3 c3,.bool t3,.slice B3 m3 d3]) (hx:PF w s1 A1 n1 c1 t1 B1 m1 d1 p q) (hy:PF w s3 A3 n3 c3 t3 B3 m3 d3 r s) (fx:Fr p q) (fy:Fr r s) :
  Calls Tryz.prog 164 #[.pointer (some ⟨gf,0,none⟩),.pointer (some ⟨gb,0,none⟩),.pointer (some ⟨ga,0,none⟩)] w (RetFE (adP p q (-r) s) (adQ p q (-r) s) (adC p q (-r) s) w):=by
 have HF:=hJ hf
 have HB:=hJ hb0
 have HA:=hJ ha0
 have HX:=hJ hx
 have HY:=hJ hy
 have aC:=hJ fx
 have aD:=hJ fy
 clear hf hb0 hx hy fx fy ha0
 obtain ⟨x1,aE⟩:=nmz (w.alloc (.cells #[.bool false,.slice none 0 0,.bool false,.slice none 0 0] 27))
 have aB:=hJ (show Below w.heap.size w x1 by rw [←aE]; exact ((Below.refl _ _).alloc (Nat.le_refl _) _))
 have aI:=hJ (show BX 27 x1 w.heap.size #[.bool false,.slice none 0 0,.bool false,.slice none 0 0] by rw [←aE]; exact (BX.at rfl))
 have aJ:=hJ (show w.heap.size≤w.heap.size by omega)
 have aK:=hJ (BX.new HF.out aB.out)
 have aL:=aK.out.cell 0 rfl
 have aM:=hJ (BX.new HB.out aB.out)
 obtain ⟨aN,aO,aP,aQ⟩:=aM.out.c4 4 5 6 7 rfl rfl rfl rfl
 have aR:=hJ (BX.new HA.out aB.out)
 obtain ⟨aS,aT,aU,aV⟩:=aR.out.c4 4 5 6 7 rfl rfl rfl rfl
 have aW:=hJ (PF.new HX.out aB.out)
 have aX:=hJ (PF.new HY.out aB.out)
 go_enter Tryz.func164,Tryz.ntmps164
 go_wp2_with fail
 clear aE aL aN aO aP aQ aS aT aU aV
 refine (fsub_any p q r s s1 t1 s3 t3 A1 B1 A3 B3 n1 c1 m1 d1 n3 c3 m3 d3 x1 aW.out aX.out aC.out.1.1 aD.out.1.1 aC.out.2.1 aC.out.2.2 aD.out.2.1 aD.out.2.2).mono ?_
 rintro e w11 ⟨s11,A11,n11,c11,t11,B11,m11,d11,rfl,hr11,hb⟩
 have aG:=hJ hb
 have aY:=hJ hr11
 clear hb hr11
 have aA:=hJ (BX.new aI.out aG.out)
 have aZ:=aA.out.frozen 0
 have bA:=aA.out.cell 0 rfl
 have bB:=aA.out.frozen 1
 have bC:=aA.out.cell 1 rfl
 have bD:=aA.out.frozen 2
 have bE:=aA.out.cell 2 rfl
 have bF:=aA.out.frozen 3
 have bG:=aA.out.cell 3 rfl
 obtain ⟨x12,aH⟩:=nmz (World.setCell (World.setCell (World.setCell (World.setCell w11 ⟨w.heap.size,0,none⟩ (.bool s11)) ⟨w.heap.size,1,none⟩ (.slice A11 n11 c11)) ⟨w.heap.size,2,none⟩ (.bool t11)) ⟨w.heap.size,3,none⟩ (.slice B11 m11 d11))
 have aF:=hJ (show sto w11 w.heap.size 0 [.bool s11,.slice A11 n11 c11,.bool t11,.slice B11 m11 d11]=x12 from aH)
 have bH:=hJ (show BX 27 x12 w.heap.size #[.bool s11,.slice A11 n11 c11,.bool t11,.slice B11 m11 d11] by rw [←aF.out]; exact BX.put aA.out _ _)
 have bJ:=hJ (show Below w.heap.size w x12 by rw [←aF.out]; exact below_sto (bt aB.out aG.out) aJ.out _ _)
 have bK:=hJ (show PF x12 s11 A11 n11 c11 t11 B11 m11 d11 (adP p q (-r) s) (adQ p q (-r) s) by rw [←aF.out]; exact PF.sto aY.out aA.out rfl _ _)
 go_wp2
 clear aZ bA bB bC bD bE bF bG aH
 exact bodyPost_ret (results_cell1 rfl _ _ _ _ _ _ _ rfl bH.out Tryz.underlying27 rfl F_size) rfl ⟨s11,A11,n11,c11,t11,B11,m11,d11,rfl,bK.out,bJ.out⟩
theorem fda3_any (p q r s:Int) (s0:Bool) (A0:Option Addr) (n0 c0:Nat) (t0:Bool) (B0:Option Addr) (m0 d0:Nat) (s1:Bool) (A1:Option Addr) (n1 c1:Nat) (t1:Bool) (B1:Option Addr) (m1 d1:Nat) (s2:Bool) (A2:Option Addr) (n2 c2:Nat) (t2:Bool) (B2:Option Addr) (m2 d2:Nat) (s3:Bool) (A3:Option Addr) (n3 c3:Nat) (t3:Bool) (B3:Option Addr) (m3 d3:Nat) (s4:Bool) (A4:Option Addr) (n4 c4:Nat) (t4:Bool) (B4:Option Addr) (m4 d4:Nat) (s5:Bool) (A5:Option Addr) (n5 c5:Nat) (t5:Bool) (B5:Option Addr) (m5 d5:Nat) (s6:Bool) (A6:Option Addr) (n6 c6:Nat) (t6:Bool) (B6:Option Addr) (m6 d6:Nat) (gf gb:Nat) (w:World) (hf:BX 74 w gf #[.func (.func 100) #[] #[]]) (hb0:BX 227 w gb #[.bool s0,.slice A0 n0 c0,.bool t0,.slice B0 m0 d0,.bool s1,.slice A1 n1 c1,.bool t1,.slice B1 m1 d1,.bool s2,.slice A2 n2 c2,.bool t2,.slice B2 m2 d2,.bool s3,.slice A3 n3 c3,.bool t3,.slice B3 m3 d3,.bool s4,.slice A4 n4 c4,.bool t4,.slice B4 m4 d4,.bool s5,.slice A5 n5 c5,.bool t5,.slice B5 m5 d5,.bool s6,.slice A6 n6 c6,.bool t6,.slice B6 m6 d6]) (hx:PF w s0 A0 n0 c0 t0 B0 m0 d0 p q) (hy:PF w s1 A1 n1 c1 t1 B1 m1 d1 r s) (fx:Fr p q) (fy:Fr r s) :
  Calls Tryz.prog 165 #[.pointer (some ⟨gf,0,none⟩),.pointer (some ⟨gb,0,none⟩)] w (RetFE (muP p q r s) (muQ p q r s) (muC p q r s) w):=by
 have HF:=hJ hf
 have HB:=hJ hb0
 have HX:=hJ hx
 have HY:=hJ hy
 have aC:=hJ fx
 have aD:=hJ fy
 clear hf hb0 hx hy fx fy
 obtain ⟨x1,aE⟩:=nmz (w.alloc (.cells #[.bool false,.slice none 0 0,.bool false,.slice none 0 0] 27))
 have aB:=hJ (show Below w.heap.size w x1 by rw [←aE]; exact ((Below.refl _ _).alloc (Nat.le_refl _) _))
 have aJ:=hJ (show BX 27 x1 w.heap.size #[.bool false,.slice none 0 0,.bool false,.slice none 0 0] by rw [←aE]; exact (BX.at rfl))
 have aK:=hJ (show w.heap.size≤w.heap.size by omega)
 have aL:=hJ (BX.new HF.out aB.out)
 have aM:=aL.out.cell 0 rfl
 have aG:=hJ (BX.new HB.out aB.out)
 obtain ⟨aN,aO,aP,aQ⟩:=aG.out.c4 0 1 2 3 rfl rfl rfl rfl
 obtain ⟨aR,aS,aT,aU⟩:=aG.out.c4 4 5 6 7 rfl rfl rfl rfl
 have aV:=hJ (PF.new HX.out aB.out)
 have aW:=hJ (PF.new HY.out aB.out)
 go_enter Tryz.func165,Tryz.ntmps165
 go_wp2_with fail
 clear aE aM aN aO aP aQ aR aS aT aU
 refine (fmul_any p q r s s0 t0 s1 t1 A0 B0 A1 B1 n0 c0 m0 d0 n1 c1 m1 d1 x1 aV.out aW.out aC.out.1.1 aD.out.1.1 aC.out.2.1 aC.out.2.2 aD.out.2.1 aD.out.2.2).mono ?_
 rintro e w11 ⟨s11,A11,n11,c11,t11,B11,m11,d11,rfl,hr11,hb⟩
 have aH:=hJ hb
 have aX:=hJ hr11
 clear hb hr11
 have aA:=hJ (BX.new aJ.out aH.out)
 have aY:=aA.out.frozen 0
 have aZ:=aA.out.cell 0 rfl
 have bA:=aA.out.frozen 1
 have bB:=aA.out.cell 1 rfl
 have bC:=aA.out.frozen 2
 have bD:=aA.out.cell 2 rfl
 have bE:=aA.out.frozen 3
 have bF:=aA.out.cell 3 rfl
 obtain ⟨x12,aI⟩:=nmz (World.setCell (World.setCell (World.setCell (World.setCell w11 ⟨w.heap.size,0,none⟩ (.bool s11)) ⟨w.heap.size,1,none⟩ (.slice A11 n11 c11)) ⟨w.heap.size,2,none⟩ (.bool t11)) ⟨w.heap.size,3,none⟩ (.slice B11 m11 d11))
 have aF:=hJ (show sto w11 w.heap.size 0 [.bool s11,.slice A11 n11 c11,.bool t11,.slice B11 m11 d11]=x12 from aI)
 have bG:=hJ (show BX 27 x12 w.heap.size #[.bool s11,.slice A11 n11 c11,.bool t11,.slice B11 m11 d11] by rw [←aF.out]; exact BX.put aA.out _ _)
 have bH:=hJ (show Below w.heap.size w x12 by rw [←aF.out]; exact below_sto (bt aB.out aH.out) aK.out _ _)
 have bJ:=hJ (show PF x12 s11 A11 n11 c11 t11 B11 m11 d11 (muP p q r s) (muQ p q r s) by rw [←aF.out]; exact PF.sto aX.out aA.out rfl _ _)
 go_wp2
 clear aY aZ bA bB bC bD bE bF aI
 exact bodyPost_ret (results_cell1 rfl _ _ _ _ _ _ _ rfl bG.out Tryz.underlying27 rfl F_size) rfl ⟨s11,A11,n11,c11,t11,B11,m11,d11,rfl,bJ.out,bH.out⟩
theorem fda4_any (p q r s:Int) (s0:Bool) (A0:Option Addr) (n0 c0:Nat) (t0:Bool) (B0:Option Addr) (m0 d0:Nat) (s1:Bool) (A1:Option Addr) (n1 c1:Nat) (t1:Bool) (B1:Option Addr) (m1 d1:Nat) (s2:Bool) (A2:Option Addr) (n2 c2:Nat) (t2:Bool) (B2:Option Addr) (m2 d2:Nat) (s3:Bool) (A3:Option Addr) (n3 c3:Nat) (t3:Bool) (B3:Option Addr) (m3 d3:Nat) (gf gb ga:Nat) (w:World) (hf:BX 74 w gf #[.func (.func 99) #[] #[]]) (hb0:BX 134 w gb #[.bool s0,.slice A0 n0 c0,.bool t0,.slice B0 m0 d0,.bool s1,.slice A1 n1 c1,.bool t1,.slice B1 m1 d1]) (ha0:BX 134 w ga #[.bool s2,.slice A2 n2 c2,.bool t2,.slice B2 m2 d2,.bool s3,.slice A3 n3 c3,.bool t3,.slice B3 m3 d3]) (hx:PF w s1 A1 n1 c1 t1 B1 m1 d1 p q) (hy:PF w s3 A3 n3 c3 t3 B3 m3 d3 r s) (fx:Fr p q) (fy:Fr r s) :
  Calls Tryz.prog 166 #[.pointer (some ⟨gf,0,none⟩),.pointer (some ⟨gb,0,none⟩),.pointer (some ⟨ga,0,none⟩)] w (RetFE (adP p q (-r) s) (adQ p q (-r) s) (adC p q (-r) s) w):=by
 have HF:=hJ hf
 have HB:=hJ hb0
 have HA:=hJ ha0
 have HX:=hJ hx
 have HY:=hJ hy
 have aC:=hJ fx
 have aD:=hJ fy
 clear hf hb0 hx hy fx fy ha0
 obtain ⟨x1,aE⟩:=nmz (w.alloc (.cells #[.bool false,.slice none 0 0,.bool false,.slice none 0 0] 27))
 have aB:=hJ (show Below w.heap.size w x1 by rw [←aE]; exact ((Below.refl _ _).alloc (Nat.le_refl _) _))
 have aI:=hJ (show BX 27 x1 w.heap.size #[.bool false,.slice none 0 0,.bool false,.slice none 0 0] by rw [←aE]; exact (BX.at rfl))
 have aJ:=hJ (show w.heap.size≤w.heap.size by omega)
 have aK:=hJ (BX.new HF.out aB.out)
 have aL:=aK.out.cell 0 rfl
 have aM:=hJ (BX.new HB.out aB.out)
 obtain ⟨aN,aO,aP,aQ⟩:=aM.out.c4 4 5 6 7 rfl rfl rfl rfl
 have aR:=hJ (BX.new HA.out aB.out)
 obtain ⟨aS,aT,aU,aV⟩:=aR.out.c4 4 5 6 7 rfl rfl rfl rfl
 have aW:=hJ (PF.new HX.out aB.out)
 have aX:=hJ (PF.new HY.out aB.out)
 go_enter Tryz.func166,Tryz.ntmps166
 go_wp2_with fail
 clear aE aL aN aO aP aQ aS aT aU aV
 refine (fsub_any p q r s s1 t1 s3 t3 A1 B1 A3 B3 n1 c1 m1 d1 n3 c3 m3 d3 x1 aW.out aX.out aC.out.1.1 aD.out.1.1 aC.out.2.1 aC.out.2.2 aD.out.2.1 aD.out.2.2).mono ?_
 rintro e w11 ⟨s11,A11,n11,c11,t11,B11,m11,d11,rfl,hr11,hb⟩
 have aG:=hJ hb
 have aY:=hJ hr11
 clear hb hr11
 have aA:=hJ (BX.new aI.out aG.out)
 have aZ:=aA.out.frozen 0
 have bA:=aA.out.cell 0 rfl
 have bB:=aA.out.frozen 1
 have bC:=aA.out.cell 1 rfl
 have bD:=aA.out.frozen 2
 have bE:=aA.out.cell 2 rfl
 have bF:=aA.out.frozen 3
 have bG:=aA.out.cell 3 rfl
 obtain ⟨x12,aH⟩:=nmz (World.setCell (World.setCell (World.setCell (World.setCell w11 ⟨w.heap.size,0,none⟩ (.bool s11)) ⟨w.heap.size,1,none⟩ (.slice A11 n11 c11)) ⟨w.heap.size,2,none⟩ (.bool t11)) ⟨w.heap.size,3,none⟩ (.slice B11 m11 d11))
 have aF:=hJ (show sto w11 w.heap.size 0 [.bool s11,.slice A11 n11 c11,.bool t11,.slice B11 m11 d11]=x12 from aH)
 have bH:=hJ (show BX 27 x12 w.heap.size #[.bool s11,.slice A11 n11 c11,.bool t11,.slice B11 m11 d11] by rw [←aF.out]; exact BX.put aA.out _ _)
 have bJ:=hJ (show Below w.heap.size w x12 by rw [←aF.out]; exact below_sto (bt aB.out aG.out) aJ.out _ _)
 have bK:=hJ (show PF x12 s11 A11 n11 c11 t11 B11 m11 d11 (adP p q (-r) s) (adQ p q (-r) s) by rw [←aF.out]; exact PF.sto aY.out aA.out rfl _ _)
 go_wp2
 clear aZ bA bB bC bD bE bF bG aH
 exact bodyPost_ret (results_cell1 rfl _ _ _ _ _ _ _ rfl bH.out Tryz.underlying27 rfl F_size) rfl ⟨s11,A11,n11,c11,t11,B11,m11,d11,rfl,bK.out,bJ.out⟩
theorem fda5_any (p q r s:Int) (s0:Bool) (A0:Option Addr) (n0 c0:Nat) (t0:Bool) (B0:Option Addr) (m0 d0:Nat) (s1:Bool) (A1:Option Addr) (n1 c1:Nat) (t1:Bool) (B1:Option Addr) (m1 d1:Nat) (s2:Bool) (A2:Option Addr) (n2 c2:Nat) (t2:Bool) (B2:Option Addr) (m2 d2:Nat) (s3:Bool) (A3:Option Addr) (n3 c3:Nat) (t3:Bool) (B3:Option Addr) (m3 d3:Nat) (gf gb ga:Nat) (w:World) (hf:BX 74 w gf #[.func (.func 99) #[] #[]]) (hb0:BX 134 w gb #[.bool s0,.slice A0 n0 c0,.bool t0,.slice B0 m0 d0,.bool s1,.slice A1 n1 c1,.bool t1,.slice B1 m1 d1]) (ha0:BX 134 w ga #[.bool s2,.slice A2 n2 c2,.bool t2,.slice B2 m2 d2,.bool s3,.slice A3 n3 c3,.bool t3,.slice B3 m3 d3]) (hx:PF w s0 A0 n0 c0 t0 B0 m0 d0 p q) (hy:PF w s2 A2 n2 c2 t2 B2 m2 d2 r s) (fx:Fr p q) (fy:Fr r s) :
  Calls Tryz.prog 167 #[.pointer (some ⟨gf,0,none⟩),.pointer (some ⟨gb,0,none⟩),.pointer (some ⟨ga,0,none⟩)] w (RetFE (adP p q (-r) s) (adQ p q (-r) s) (adC p q (-r) s) w):=by
 have HF:=hJ hf
 have HB:=hJ hb0
 have HA:=hJ ha0
 have HX:=hJ hx
 have HY:=hJ hy
 have aC:=hJ fx
 have aD:=hJ fy
 clear hf hb0 hx hy fx fy ha0
 obtain ⟨x1,aE⟩:=nmz (w.alloc (.cells #[.bool false,.slice none 0 0,.bool false,.slice none 0 0] 27))
 have aB:=hJ (show Below w.heap.size w x1 by rw [←aE]; exact ((Below.refl _ _).alloc (Nat.le_refl _) _))
 have aI:=hJ (show BX 27 x1 w.heap.size #[.bool false,.slice none 0 0,.bool false,.slice none 0 0] by rw [←aE]; exact (BX.at rfl))
 have aJ:=hJ (show w.heap.size≤w.heap.size by omega)
 have aK:=hJ (BX.new HF.out aB.out)
 have aL:=aK.out.cell 0 rfl
 have aM:=hJ (BX.new HB.out aB.out)
 obtain ⟨aN,aO,aP,aQ⟩:=aM.out.c4 0 1 2 3 rfl rfl rfl rfl
 have aR:=hJ (BX.new HA.out aB.out)
 obtain ⟨aS,aT,aU,aV⟩:=aR.out.c4 0 1 2 3 rfl rfl rfl rfl
 have aW:=hJ (PF.new HX.out aB.out)
 have aX:=hJ (PF.new HY.out aB.out)
 go_enter Tryz.func167,Tryz.ntmps167
 go_wp2_with fail
 clear aE aL aN aO aP aQ aS aT aU aV
 refine (fsub_any p q r s s0 t0 s2 t2 A0 B0 A2 B2 n0 c0 m0 d0 n2 c2 m2 d2 x1 aW.out aX.out aC.out.1.1 aD.out.1.1 aC.out.2.1 aC.out.2.2 aD.out.2.1 aD.out.2.2).mono ?_
 rintro e w11 ⟨s11,A11,n11,c11,t11,B11,m11,d11,rfl,hr11,hb⟩
 have aG:=hJ hb
 have aY:=hJ hr11
 clear hb hr11
 have aA:=hJ (BX.new aI.out aG.out)
 have aZ:=aA.out.frozen 0
 have bA:=aA.out.cell 0 rfl
 have bB:=aA.out.frozen 1
 have bC:=aA.out.cell 1 rfl
 have bD:=aA.out.frozen 2
 have bE:=aA.out.cell 2 rfl
 have bF:=aA.out.frozen 3
 have bG:=aA.out.cell 3 rfl
 obtain ⟨x12,aH⟩:=nmz (World.setCell (World.setCell (World.setCell (World.setCell w11 ⟨w.heap.size,0,none⟩ (.bool s11)) ⟨w.heap.size,1,none⟩ (.slice A11 n11 c11)) ⟨w.heap.size,2,none⟩ (.bool t11)) ⟨w.heap.size,3,none⟩ (.slice B11 m11 d11))
 have aF:=hJ (show sto w11 w.heap.size 0 [.bool s11,.slice A11 n11 c11,.bool t11,.slice B11 m11 d11]=x12 from aH)
 have bH:=hJ (show BX 27 x12 w.heap.size #[.bool s11,.slice A11 n11 c11,.bool t11,.slice B11 m11 d11] by rw [←aF.out]; exact BX.put aA.out _ _)
 have bJ:=hJ (show Below w.heap.size w x12 by rw [←aF.out]; exact below_sto (bt aB.out aG.out) aJ.out _ _)
 have bK:=hJ (show PF x12 s11 A11 n11 c11 t11 B11 m11 d11 (adP p q (-r) s) (adQ p q (-r) s) by rw [←aF.out]; exact PF.sto aY.out aA.out rfl _ _)
 go_wp2
 clear aZ bA bB bC bD bE bF bG aH
 exact bodyPost_ret (results_cell1 rfl _ _ _ _ _ _ _ rfl bH.out Tryz.underlying27 rfl F_size) rfl ⟨s11,A11,n11,c11,t11,B11,m11,d11,rfl,bK.out,bJ.out⟩
theorem fda6_any (p q r s:Int) (s0:Bool) (A0:Option Addr) (n0 c0:Nat) (t0:Bool) (B0:Option Addr) (m0 d0:Nat) (s1:Bool) (A1:Option Addr) (n1 c1:Nat) (t1:Bool) (B1:Option Addr) (m1 d1:Nat) (s2:Bool) (A2:Option Addr) (n2 c2:Nat) (t2:Bool) (B2:Option Addr) (m2 d2:Nat) (s3:Bool) (A3:Option Addr) (n3 c3:Nat) (t3:Bool) (B3:Option Addr) (m3 d3:Nat) (s4:Bool) (A4:Option Addr) (n4 c4:Nat) (t4:Bool) (B4:Option Addr) (m4 d4:Nat) (s5:Bool) (A5:Option Addr) (n5 c5:Nat) (t5:Bool) (B5:Option Addr) (m5 d5:Nat) (s6:Bool) (A6:Option Addr) (n6 c6:Nat) (t6:Bool) (B6:Option Addr) (m6 d6:Nat) (gf gb:Nat) (w:World) (hf:BX 74 w gf #[.func (.func 100) #[] #[]]) (hb0:BX 227 w gb #[.bool s0,.slice A0 n0 c0,.bool t0,.slice B0 m0 d0,.bool s1,.slice A1 n1 c1,.bool t1,.slice B1 m1 d1,.bool s2,.slice A2 n2 c2,.bool t2,.slice B2 m2 d2,.bool s3,.slice A3 n3 c3,.bool t3,.slice B3 m3 d3,.bool s4,.slice A4 n4 c4,.bool t4,.slice B4 m4 d4,.bool s5,.slice A5 n5 c5,.bool t5,.slice B5 m5 d5,.bool s6,.slice A6 n6 c6,.bool t6,.slice B6 m6 d6]) (hx:PF w s3 A3 n3 c3 t3 B3 m3 d3 p q) (hy:PF w s4 A4 n4 c4 t4 B4 m4 d4 r s) (fx:Fr p q) (fy:Fr r s) :
  Calls Tryz.prog 168 #[.pointer (some ⟨gf,0,none⟩),.pointer (some ⟨gb,0,none⟩)] w (RetFE (muP p q r s) (muQ p q r s) (muC p q r s) w):=by
 have HF:=hJ hf
 have HB:=hJ hb0
 have HX:=hJ hx
 have HY:=hJ hy
 have aC:=hJ fx
 have aD:=hJ fy
 clear hf hb0 hx hy fx fy
 obtain ⟨x1,aE⟩:=nmz (w.alloc (.cells #[.bool false,.slice none 0 0,.bool false,.slice none 0 0] 27))
 have aB:=hJ (show Below w.heap.size w x1 by rw [←aE]; exact ((Below.refl _ _).alloc (Nat.le_refl _) _))
 have aJ:=hJ (show BX 27 x1 w.heap.size #[.bool false,.slice none 0 0,.bool false,.slice none 0 0] by rw [←aE]; exact (BX.at rfl))
 have aK:=hJ (show w.heap.size≤w.heap.size by omega)
 have aL:=hJ (BX.new HF.out aB.out)
 have aM:=aL.out.cell 0 rfl
 have aG:=hJ (BX.new HB.out aB.out)
 obtain ⟨aN,aO,aP,aQ⟩:=aG.out.c4 12 13 14 15 rfl rfl rfl rfl
 obtain ⟨aR,aS,aT,aU⟩:=aG.out.c4 16 17 18 19 rfl rfl rfl rfl
 have aV:=hJ (PF.new HX.out aB.out)
 have aW:=hJ (PF.new HY.out aB.out)
 go_enter Tryz.func168,Tryz.ntmps168
 go_wp2_with fail
 clear aE aM aN aO aP aQ aR aS aT aU
 refine (fmul_any p q r s s3 t3 s4 t4 A3 B3 A4 B4 n3 c3 m3 d3 n4 c4 m4 d4 x1 aV.out aW.out aC.out.1.1 aD.out.1.1 aC.out.2.1 aC.out.2.2 aD.out.2.1 aD.out.2.2).mono ?_
 rintro e w11 ⟨s11,A11,n11,c11,t11,B11,m11,d11,rfl,hr11,hb⟩
 have aH:=hJ hb
 have aX:=hJ hr11
 clear hb hr11
 have aA:=hJ (BX.new aJ.out aH.out)
 have aY:=aA.out.frozen 0
 have aZ:=aA.out.cell 0 rfl
 have bA:=aA.out.frozen 1
 have bB:=aA.out.cell 1 rfl
 have bC:=aA.out.frozen 2
 have bD:=aA.out.cell 2 rfl
 have bE:=aA.out.frozen 3
 have bF:=aA.out.cell 3 rfl
 obtain ⟨x12,aI⟩:=nmz (World.setCell (World.setCell (World.setCell (World.setCell w11 ⟨w.heap.size,0,none⟩ (.bool s11)) ⟨w.heap.size,1,none⟩ (.slice A11 n11 c11)) ⟨w.heap.size,2,none⟩ (.bool t11)) ⟨w.heap.size,3,none⟩ (.slice B11 m11 d11))
 have aF:=hJ (show sto w11 w.heap.size 0 [.bool s11,.slice A11 n11 c11,.bool t11,.slice B11 m11 d11]=x12 from aI)
 have bG:=hJ (show BX 27 x12 w.heap.size #[.bool s11,.slice A11 n11 c11,.bool t11,.slice B11 m11 d11] by rw [←aF.out]; exact BX.put aA.out _ _)
 have bH:=hJ (show Below w.heap.size w x12 by rw [←aF.out]; exact below_sto (bt aB.out aH.out) aK.out _ _)
 have bJ:=hJ (show PF x12 s11 A11 n11 c11 t11 B11 m11 d11 (muP p q r s) (muQ p q r s) by rw [←aF.out]; exact PF.sto aX.out aA.out rfl _ _)
 go_wp2
 clear aY aZ bA bB bC bD bE bF aI
 exact bodyPost_ret (results_cell1 rfl _ _ _ _ _ _ _ rfl bG.out Tryz.underlying27 rfl F_size) rfl ⟨s11,A11,n11,c11,t11,B11,m11,d11,rfl,bJ.out,bH.out⟩
theorem fda7_any (p q r s:Int) (s0:Bool) (A0:Option Addr) (n0 c0:Nat) (t0:Bool) (B0:Option Addr) (m0 d0:Nat) (s1:Bool) (A1:Option Addr) (n1 c1:Nat) (t1:Bool) (B1:Option Addr) (m1 d1:Nat) (s2:Bool) (A2:Option Addr) (n2 c2:Nat) (t2:Bool) (B2:Option Addr) (m2 d2:Nat) (s3:Bool) (A3:Option Addr) (n3 c3:Nat) (t3:Bool) (B3:Option Addr) (m3 d3:Nat) (s4:Bool) (A4:Option Addr) (n4 c4:Nat) (t4:Bool) (B4:Option Addr) (m4 d4:Nat) (s5:Bool) (A5:Option Addr) (n5 c5:Nat) (t5:Bool) (B5:Option Addr) (m5 d5:Nat) (s6:Bool) (A6:Option Addr) (n6 c6:Nat) (t6:Bool) (B6:Option Addr) (m6 d6:Nat) (gf gb:Nat) (w:World) (hf:BX 74 w gf #[.func (.func 99) #[] #[]]) (hb0:BX 227 w gb #[.bool s0,.slice A0 n0 c0,.bool t0,.slice B0 m0 d0,.bool s1,.slice A1 n1 c1,.bool t1,.slice B1 m1 d1,.bool s2,.slice A2 n2 c2,.bool t2,.slice B2 m2 d2,.bool s3,.slice A3 n3 c3,.bool t3,.slice B3 m3 d3,.bool s4,.slice A4 n4 c4,.bool t4,.slice B4 m4 d4,.bool s5,.slice A5 n5 c5,.bool t5,.slice B5 m5 d5,.bool s6,.slice A6 n6 c6,.bool t6,.slice B6 m6 d6]) (hx:PF w s2 A2 n2 c2 t2 B2 m2 d2 p q) (hy:PF w s5 A5 n5 c5 t5 B5 m5 d5 r s) (fx:Fr p q) (fy:Fr r s) :
  Calls Tryz.prog 169 #[.pointer (some ⟨gf,0,none⟩),.pointer (some ⟨gb,0,none⟩)] w (RetFE (adP p q (-r) s) (adQ p q (-r) s) (adC p q (-r) s) w):=by
 have HF:=hJ hf
 have HB:=hJ hb0
 have HX:=hJ hx
 have HY:=hJ hy
 have aC:=hJ fx
 have aD:=hJ fy
 clear hf hb0 hx hy fx fy
 obtain ⟨x1,aE⟩:=nmz (w.alloc (.cells #[.bool false,.slice none 0 0,.bool false,.slice none 0 0] 27))
 have aB:=hJ (show Below w.heap.size w x1 by rw [←aE]; exact ((Below.refl _ _).alloc (Nat.le_refl _) _))
 have aJ:=hJ (show BX 27 x1 w.heap.size #[.bool false,.slice none 0 0,.bool false,.slice none 0 0] by rw [←aE]; exact (BX.at rfl))
 have aK:=hJ (show w.heap.size≤w.heap.size by omega)
 have aL:=hJ (BX.new HF.out aB.out)
 have aM:=aL.out.cell 0 rfl
 have aG:=hJ (BX.new HB.out aB.out)
 obtain ⟨aN,aO,aP,aQ⟩:=aG.out.c4 8 9 10 11 rfl rfl rfl rfl
 obtain ⟨aR,aS,aT,aU⟩:=aG.out.c4 20 21 22 23 rfl rfl rfl rfl
 have aV:=hJ (PF.new HX.out aB.out)
 have aW:=hJ (PF.new HY.out aB.out)
 go_enter Tryz.func169,Tryz.ntmps169
 go_wp2_with fail
 clear aE aM aN aO aP aQ aR aS aT aU
 refine (fsub_any p q r s s2 t2 s5 t5 A2 B2 A5 B5 n2 c2 m2 d2 n5 c5 m5 d5 x1 aV.out aW.out aC.out.1.1 aD.out.1.1 aC.out.2.1 aC.out.2.2 aD.out.2.1 aD.out.2.2).mono ?_
 rintro e w11 ⟨s11,A11,n11,c11,t11,B11,m11,d11,rfl,hr11,hb⟩
 have aH:=hJ hb
 have aX:=hJ hr11
 clear hb hr11
 have aA:=hJ (BX.new aJ.out aH.out)
 have aY:=aA.out.frozen 0
 have aZ:=aA.out.cell 0 rfl
 have bA:=aA.out.frozen 1
 have bB:=aA.out.cell 1 rfl
 have bC:=aA.out.frozen 2
 have bD:=aA.out.cell 2 rfl
 have bE:=aA.out.frozen 3
 have bF:=aA.out.cell 3 rfl
 obtain ⟨x12,aI⟩:=nmz (World.setCell (World.setCell (World.setCell (World.setCell w11 ⟨w.heap.size,0,none⟩ (.bool s11)) ⟨w.heap.size,1,none⟩ (.slice A11 n11 c11)) ⟨w.heap.size,2,none⟩ (.bool t11)) ⟨w.heap.size,3,none⟩ (.slice B11 m11 d11))
 have aF:=hJ (show sto w11 w.heap.size 0 [.bool s11,.slice A11 n11 c11,.bool t11,.slice B11 m11 d11]=x12 from aI)
 have bG:=hJ (show BX 27 x12 w.heap.size #[.bool s11,.slice A11 n11 c11,.bool t11,.slice B11 m11 d11] by rw [←aF.out]; exact BX.put aA.out _ _)
 have bH:=hJ (show Below w.heap.size w x12 by rw [←aF.out]; exact below_sto (bt aB.out aH.out) aK.out _ _)
 have bJ:=hJ (show PF x12 s11 A11 n11 c11 t11 B11 m11 d11 (adP p q (-r) s) (adQ p q (-r) s) by rw [←aF.out]; exact PF.sto aX.out aA.out rfl _ _)
 go_wp2
 clear aY aZ bA bB bC bD bE bF aI
 exact bodyPost_ret (results_cell1 rfl _ _ _ _ _ _ _ rfl bG.out Tryz.underlying27 rfl F_size) rfl ⟨s11,A11,n11,c11,t11,B11,m11,d11,rfl,bJ.out,bH.out⟩
theorem fdarea_any (p0 q0 p1 q1 p2 q2 p3 q3 p4 q4 p5 q5 P0 Q0 C0 P1 Q1 C1 P2 Q2 C2 P3 Q3 C3 P4 Q4 C4 P5 Q5 C5 P6 Q6 C6:Int) (s0:Bool) (A0:Option Addr) (n0 c0:Nat) (t0:Bool) (B0:Option Addr) (m0 d0:Nat) (s1:Bool) (A1:Option Addr) (n1 c1:Nat) (t1:Bool) (B1:Option Addr) (m1 d1:Nat) (s2:Bool) (A2:Option Addr) (n2 c2:Nat) (t2:Bool) (B2:Option Addr) (m2 d2:Nat) (s3:Bool) (A3:Option Addr) (n3 c3:Nat) (t3:Bool) (B3:Option Addr) (m3 d3:Nat) (s4:Bool) (A4:Option Addr) (n4 c4:Nat) (t4:Bool) (B4:Option Addr) (m4 d4:Nat) (s5:Bool) (A5:Option Addr) (n5 c5:Nat) (t5:Bool) (B5:Option Addr) (m5 d5:Nat) (w:World) (h0:PF w s0 A0 n0 c0 t0 B0 m0 d0 p0 q0) (h1:PF w s1 A1 n1 c1 t1 B1 m1 d1 p1 q1) (h2:PF w s2 A2 n2 c2 t2 B2 m2 d2 p2 q2) (h3:PF w s3 A3 n3 c3 t3 B3 m3 d3 p3 q3) (h4:PF w s4 A4 n4 c4 t4 B4 m4 d4 p4 q4) (h5:PF w s5 A5 n5 c5 t5 B5 m5 d5 p5 q5) (f0:Fr p0 q0) (f1:Fr p1 q1) (f2:Fr p2 q2) (f3:Fr p3 q3) (f4:Fr p4 q4) (f5:Fr p5 q5) (e0:adP p2 q2 (-p0) q0=P0∧adQ p2 q2 (-p0) q0=Q0∧adC p2 q2 (-p0) q0=C0) (e1:adP p5 q5 (-p1) q1=P1∧adQ p5 q5 (-p1) q1=Q1∧adC p5 q5 (-p1) q1=C1) (e2:muP P0 Q0 P1 Q1=P2∧muQ P0 Q0 P1 Q1=Q2∧muC P0 Q0 P1 Q1=C2) (e3:adP p3 q3 (-p1) q1=P3∧adQ p3 q3 (-p1) q1=Q3∧adC p3 q3 (-p1) q1=C3) (e4:adP p4 q4 (-p0) q0=P4∧adQ p4 q4 (-p0) q0=Q4∧adC p4 q4 (-p0) q0=C4) (e5:muP P3 Q3 P4 Q4=P5∧muQ P3 Q3 P4 Q4=Q5∧muC P3 Q3 P4 Q4=C5) (e6:adP P2 Q2 (-P5) Q5=P6∧adQ P2 Q2 (-P5) Q5=Q6∧adC P2 Q2 (-P5) Q5=C6) :
  Calls Tryz.prog 98 #[.func (.func 99) #[] #[],.func (.func 100) #[] #[],.agg #[.bool s0,.slice A0 n0 c0,.bool t0,.slice B0 m0 d0,.bool s1,.slice A1 n1 c1,.bool t1,.slice B1 m1 d1],.agg #[.bool s2,.slice A2 n2 c2,.bool t2,.slice B2 m2 d2,.bool s3,.slice A3 n3 c3,.bool t3,.slice B3 m3 d3],.agg #[.bool s4,.slice A4 n4 c4,.bool t4,.slice B4 m4 d4,.bool s5,.slice A5 n5 c5,.bool t5,.slice B5 m5 d5]] w (RetFE (feP (feV [C0,C1,C2,C3,C4,C5,C6]) P6) (feQ (feV [C0,C1,C2,C3,C4,C5,C6]) Q6) (feV [C0,C1,C2,C3,C4,C5,C6]) w):=by
 have fJ:=hJ h0
 have eQ:=hJ f0
 have fK:=hJ h1
 have eR:=hJ f1
 have hP:=hJ h2
 have fL:=hJ f2
 have hQ:=hJ h3
 have fM:=hJ f3
 have hR:=hJ h4
 have fN:=hJ f4
 have hS:=hJ h5
 have fO:=hJ f5
 have eJ:=hJ e0
 have eK:=hJ e1
 have eL:=hJ e2
 have eM:=hJ e3
 have eN:=hJ e4
 have eO:=hJ e5
 have eV:=hJ e6
 clear h0 f0 h1 f1 h2 f2 h3 f3 h4 f4 h5 f5 e0 e1 e2 e3 e4 e5 e6
 have fP:=hJ (show Fr P0 Q0 by rw [←eJ.out.1,←eJ.out.2.1]; exact fr_ad fL.out (fr_neg eQ.out))
 have fQ:=hJ (show Fr P1 Q1 by rw [←eK.out.1,←eK.out.2.1]; exact fr_ad fO.out (fr_neg eR.out))
 have hT:=hJ (show Fr P2 Q2 by rw [←eL.out.1,←eL.out.2.1]; exact fr_mu fP.out fQ.out)
 have fR:=hJ (show Fr P3 Q3 by rw [←eM.out.1,←eM.out.2.1]; exact fr_ad fM.out (fr_neg eR.out))
 have fS:=hJ (show Fr P4 Q4 by rw [←eN.out.1,←eN.out.2.1]; exact fr_ad fN.out (fr_neg eQ.out))
 have hU:=hJ (show Fr P5 Q5 by rw [←eO.out.1,←eO.out.2.1]; exact fr_mu fR.out fS.out)
 have hV:=hJ (PF.zero w)
 obtain ⟨x1,dX⟩:=nmz ((((((w.alloc (.cells #[.func (.func 99) #[] #[]] 74)).alloc (.cells #[.func (.func 100) #[] #[]] 74)).alloc (.cells #[.bool s0,.slice A0 n0 c0,.bool t0,.slice B0 m0 d0,.bool s1,.slice A1 n1 c1,.bool t1,.slice B1 m1 d1] 134)).alloc (.cells #[.bool s2,.slice A2 n2 c2,.bool t2,.slice B2 m2 d2,.bool s3,.slice A3 n3 c3,.bool t3,.slice B3 m3 d3] 134)).alloc (.cells #[.bool s4,.slice A4 n4 c4,.bool t4,.slice B4 m4 d4,.bool s5,.slice A5 n5 c5,.bool t5,.slice B5 m5 d5] 134)).alloc (.cells #[.bool false,.slice none 0 0,.bool false,.slice none 0 0] 27))
 have dN:=hJ (show Below w.heap.size w x1 by rw [←dX]; exact (((((((Below.refl _ _).alloc (Nat.le_refl _) _).alloc (by simp only [World.size_alloc]; omega) _).alloc (by simp only [World.size_alloc]; omega) _).alloc (by simp only [World.size_alloc]; omega) _).alloc (by simp only [World.size_alloc]; omega) _).alloc (by simp only [World.size_alloc]; omega) _))
 have eP:=hJ (show BX 74 x1 w.heap.size #[.func (.func 99) #[] #[]] by rw [←dX]; exact ((((((BX.at rfl).alloc _).alloc _).alloc _).alloc _).alloc _))
 have fT:=hJ (show BX 74 x1 (w.heap.size+1) #[.func (.func 100) #[] #[]] by rw [←dX]; exact (((((BX.at (by simp only [World.size_alloc])).alloc _).alloc _).alloc _).alloc _))
 have eS:=hJ (show BX 134 x1 (w.heap.size+2) #[.bool s0,.slice A0 n0 c0,.bool t0,.slice B0 m0 d0,.bool s1,.slice A1 n1 c1,.bool t1,.slice B1 m1 d1] by rw [←dX]; exact ((((BX.at (by simp only [World.size_alloc])).alloc _).alloc _).alloc _))
 have fU:=hJ (show BX 134 x1 (w.heap.size+3) #[.bool s2,.slice A2 n2 c2,.bool t2,.slice B2 m2 d2,.bool s3,.slice A3 n3 c3,.bool t3,.slice B3 m3 d3] by rw [←dX]; exact (((BX.at (by simp only [World.size_alloc])).alloc _).alloc _))
 have fV:=hJ (show BX 134 x1 (w.heap.size+4) #[.bool s4,.slice A4 n4 c4,.bool t4,.slice B4 m4 d4,.bool s5,.slice A5 n5 c5,.bool t5,.slice B5 m5 d5] by rw [←dX]; exact ((BX.at (by simp only [World.size_alloc])).alloc _))
 have dY:=hJ (show BX 27 x1 (w.heap.size+5) #[.bool false,.slice none 0 0,.bool false,.slice none 0 0] by rw [←dX]; exact (BX.at (by simp only [World.size_alloc])))
 have dZ:=hJ (show w.heap.size≤w.heap.size+5 by omega)
 obtain ⟨x2,eT⟩:=nmz ((x1.alloc (.cells #[.bool false,.slice none 0 0,.bool false,.slice none 0 0,.bool false,.slice none 0 0,.bool false,.slice none 0 0,.bool false,.slice none 0 0,.bool false,.slice none 0 0,.bool false,.slice none 0 0,.bool false,.slice none 0 0,.bool false,.slice none 0 0,.bool false,.slice none 0 0,.bool false,.slice none 0 0,.bool false,.slice none 0 0,.bool false,.slice none 0 0,.bool false,.slice none 0 0] 227)).alloc (.cells #[.func (.func 163) #[] #[.pointer (some ⟨w.heap.size,0,none⟩),.pointer (some ⟨w.heap.size+3,0,none⟩),.pointer (some ⟨w.heap.size+2,0,none⟩)],.func (.func 164) #[] #[.pointer (some ⟨w.heap.size,0,none⟩),.pointer (some ⟨w.heap.size+4,0,none⟩),.pointer (some ⟨w.heap.size+2,0,none⟩)],.func (.func 165) #[] #[.pointer (some ⟨w.heap.size+1,0,none⟩),.pointer (some ⟨x1.heap.size,0,none⟩)],.func (.func 166) #[] #[.pointer (some ⟨w.heap.size,0,none⟩),.pointer (some ⟨w.heap.size+3,0,none⟩),.pointer (some ⟨w.heap.size+2,0,none⟩)],.func (.func 167) #[] #[.pointer (some ⟨w.heap.size,0,none⟩),.pointer (some ⟨w.heap.size+4,0,none⟩),.pointer (some ⟨w.heap.size+2,0,none⟩)],.func (.func 168) #[] #[.pointer (some ⟨w.heap.size+1,0,none⟩),.pointer (some ⟨x1.heap.size,0,none⟩)],.func (.func 169) #[] #[.pointer (some ⟨w.heap.size,0,none⟩),.pointer (some ⟨x1.heap.size,0,none⟩)]] 229))
 have fW:=hJ (show Below x1.heap.size x1 x2 by rw [←eT]; exact (((Below.refl _ _).alloc (Nat.le_refl _) _).alloc (by simp only [World.size_alloc]; omega) _))
 have hW:=hJ (show BX 227 x2 x1.heap.size #[.bool false,.slice none 0 0,.bool false,.slice none 0 0,.bool false,.slice none 0 0,.bool false,.slice none 0 0,.bool false,.slice none 0 0,.bool false,.slice none 0 0,.bool false,.slice none 0 0,.bool false,.slice none 0 0,.bool false,.slice none 0 0,.bool false,.slice none 0 0,.bool false,.slice none 0 0,.bool false,.slice none 0 0,.bool false,.slice none 0 0,.bool false,.slice none 0 0] by rw [←eT]; exact ((BX.at rfl).alloc _))
 have cK:=hJ (show x1.heap.size≤x1.heap.size by omega)
 have eU:=hJ (show BX 229 x2 (x1.heap.size+1) #[.func (.func 163) #[] #[.pointer (some ⟨w.heap.size,0,none⟩),.pointer (some ⟨w.heap.size+3,0,none⟩),.pointer (some ⟨w.heap.size+2,0,none⟩)],.func (.func 164) #[] #[.pointer (some ⟨w.heap.size,0,none⟩),.pointer (some ⟨w.heap.size+4,0,none⟩),.pointer (some ⟨w.heap.size+2,0,none⟩)],.func (.func 165) #[] #[.pointer (some ⟨w.heap.size+1,0,none⟩),.pointer (some ⟨x1.heap.size,0,none⟩)],.func (.func 166) #[] #[.pointer (some ⟨w.heap.size,0,none⟩),.pointer (some ⟨w.heap.size+3,0,none⟩),.pointer (some ⟨w.heap.size+2,0,none⟩)],.func (.func 167) #[] #[.pointer (some ⟨w.heap.size,0,none⟩),.pointer (some ⟨w.heap.size+4,0,none⟩),.pointer (some ⟨w.heap.size+2,0,none⟩)],.func (.func 168) #[] #[.pointer (some ⟨w.heap.size+1,0,none⟩),.pointer (some ⟨x1.heap.size,0,none⟩)],.func (.func 169) #[] #[.pointer (some ⟨w.heap.size,0,none⟩),.pointer (some ⟨x1.heap.size,0,none⟩)]] by rw [←eT]; exact (BX.at (by simp only [World.size_alloc])))
 obtain ⟨hX,hY,hZ,iA⟩:=eU.out.q4 0 1 2 3
 have iB:=eU.out.cell 4 rfl
 have iC:=eU.out.cell 5 rfl
 have iD:=eU.out.cell 6 rfl
 have iE:=hJ (bt dN.out fW.out)
 have eA:=hJ (PF.new hV.out iE.out)
 go_enter Tryz.func98,Tryz.ntmps98
 go_wp2_with fail
 clear dX eT hX hY hZ iA iB iC iD
 go_loopw [27] (fun tv wr=>∃ (i:Nat) (aN:Bool) (aO:Option Addr) (aP:Nat) (aQ:Nat) (aR:Bool) (aS:Option Addr) (aT:Nat) (aU:Nat) (aV:Bool) (aW:Option Addr) (aX:Nat) (aY:Nat) (aZ:Bool) (bA:Option Addr) (bB:Nat) (bC:Nat) (bD:Bool) (bE:Option Addr) (bF:Nat) (bG:Nat) (bH:Bool) (bJ:Option Addr) (bK:Nat) (bL:Nat) (bM:Bool) (bN:Option Addr) (bO:Nat) (bP:Nat) (bQ:Bool) (bR:Option Addr) (bS:Nat) (bT:Nat) (bU:Bool) (bV:Option Addr) (bW:Nat) (bX:Nat) (bY:Bool) (bZ:Option Addr) (cA:Nat) (cB:Nat) (cC:Bool) (cD:Option Addr) (cE:Nat) (cF:Nat) (cG:Bool) (cH:Option Addr) (cI:Nat) (cJ:Nat) (aE:Bool) (aF:Option Addr) (aG:Nat) (aH:Nat) (aI:Bool) (aJ:Option Addr) (aK:Nat) (aL:Nat) (y0_10:Int) (z0_10:Int) (y1_10:Int) (z1_10:Int) (y2_10:Int) (z2_10:Int) (y3_10:Int) (z3_10:Int) (y4_10:Int) (z4_10:Int) (y5_10:Int) (z5_10:Int) (y6_10:Int) (z6_10:Int),i≤7∧tv=.int .i64 (i:Int)∧BX 227 wr x1.heap.size #[.bool aN,.slice aO aP aQ,.bool aR,.slice aS aT aU,.bool aV,.slice aW aX aY,.bool aZ,.slice bA bB bC,.bool bD,.slice bE bF bG,.bool bH,.slice bJ bK bL,.bool bM,.slice bN bO bP,.bool bQ,.slice bR bS bT,.bool bU,.slice bV bW bX,.bool bY,.slice bZ cA cB,.bool cC,.slice cD cE cF,.bool cG,.slice cH cI cJ,.bool aE,.slice aF aG aH,.bool aI,.slice aJ aK aL]∧PF wr aN aO aP aQ aR aS aT aU y0_10 z0_10∧PF wr aV aW aX aY aZ bA bB bC y1_10 z1_10∧PF wr bD bE bF bG bH bJ bK bL y2_10 z2_10∧PF wr bM bN bO bP bQ bR bS bT y3_10 z3_10∧PF wr bU bV bW bX bY bZ cA cB y4_10 z4_10∧PF wr cC cD cE cF cG cH cI cJ y5_10 z5_10∧PF wr aE aF aG aH aI aJ aK aL y6_10 z6_10∧Hid ((0 < i→y0_10=P0∧z0_10=Q0∧C0=0)∧(1 < i→y1_10=P1∧z1_10=Q1∧C1=0)∧(2 < i→y2_10=P2∧z2_10=Q2∧C2=0)∧(3 < i→y3_10=P3∧z3_10=Q3∧C3=0)∧(4 < i→y4_10=P4∧z4_10=Q4∧C4=0)∧(5 < i→y5_10=P5∧z5_10=Q5∧C5=0)∧(6 < i→y6_10=P6∧z6_10=Q6∧C6=0))∧Below x1.heap.size x1 wr) (fun tv _=>7 - (intOf tv).toNat)
 case atStart=>exact ⟨0,false,none,0,0,false,none,0,0,false,none,0,0,false,none,0,0,false,none,0,0,false,none,0,0,false,none,0,0,false,none,0,0,false,none,0,0,false,none,0,0,false,none,0,0,false,none,0,0,false,none,0,0,false,none,0,0,0,1,0,1,0,1,0,1,0,1,0,1,0,1,by omega,rfl,hW.out,eA.out,eA.out,eA.out,eA.out,eA.out,eA.out,eA.out,hJ (⟨fun h=>absurd h (by decide),fun h=>absurd h (by decide),fun h=>absurd h (by decide),fun h=>absurd h (by decide),fun h=>absurd h (by decide),fun h=>absurd h (by decide),fun h=>absurd h (by decide)⟩),fW.out⟩
 case round =>
  obtain ⟨i10,aN,aO,aP,aQ,aR,aS,aT,aU,aV,aW,aX,aY,aZ,bA,bB,bC,bD,bE,bF,bG,bH,bJ,bK,bL,bM,bN,bO,bP,bQ,bR,bS,bT,bU,bV,bW,bX,bY,bZ,cA,cB,cC,cD,cE,cF,cG,cH,cI,cJ,aE,aF,aG,aH,aI,aJ,aK,aL,y0_10,z0_10,y1_10,z1_10,y2_10,z2_10,y3_10,z3_10,y4_10,z4_10,y5_10,z5_10,y6_10,z6_10,hi,rfl,hz10_0,hz10_1,hz10_2,hz10_3,hz10_4,hz10_5,hz10_6,hz10_7,aB,hbel⟩:=hrel
  obtain ⟨wl10,rfl⟩:∃ W:World,W=wr:=⟨_,rfl⟩
  have aD:=hJ hbel
  have cL:=hJ hz10_0
  have eB:=hJ hz10_1
  have eC:=hJ hz10_2
  have eD:=hJ hz10_3
  have eE:=hJ hz10_4
  have eF:=hJ hz10_5
  have eG:=hJ hz10_6
  have eH:=hJ hz10_7
  clear hbel hz10_0 hz10_1 hz10_2 hz10_3 hz10_4 hz10_5 hz10_6 hz10_7
  have cM:=hJ (bt dN.out aD.out)
  have hcs:i10=0∨i10=1∨i10=2∨i10=3∨i10=4∨i10=5∨i10=6∨i10=7:=by omega
  clear hi
  rcases hcs with rfl | rfl | rfl | rfl | rfl | rfl | rfl | rfl
  ·(try rw [show ((0:Nat):Int)=0 from rfl])
   have hix:∀ wx,(Instr.index 229 (.agg #[.func (.func 163) #[] #[.pointer (some ⟨w.heap.size,0,none⟩),.pointer (some ⟨w.heap.size+3,0,none⟩),.pointer (some ⟨w.heap.size+2,0,none⟩)],.func (.func 164) #[] #[.pointer (some ⟨w.heap.size,0,none⟩),.pointer (some ⟨w.heap.size+4,0,none⟩),.pointer (some ⟨w.heap.size+2,0,none⟩)],.func (.func 165) #[] #[.pointer (some ⟨w.heap.size+1,0,none⟩),.pointer (some ⟨x1.heap.size,0,none⟩)],.func (.func 166) #[] #[.pointer (some ⟨w.heap.size,0,none⟩),.pointer (some ⟨w.heap.size+3,0,none⟩),.pointer (some ⟨w.heap.size+2,0,none⟩)],.func (.func 167) #[] #[.pointer (some ⟨w.heap.size,0,none⟩),.pointer (some ⟨w.heap.size+4,0,none⟩),.pointer (some ⟨w.heap.size+2,0,none⟩)],.func (.func 168) #[] #[.pointer (some ⟨w.heap.size+1,0,none⟩),.pointer (some ⟨x1.heap.size,0,none⟩)],.func (.func 169) #[] #[.pointer (some ⟨w.heap.size,0,none⟩),.pointer (some ⟨x1.heap.size,0,none⟩)]]) (.int .i64 0)).run Tryz.prog wx=.ok (.func (.func 163) #[] #[.pointer (some ⟨w.heap.size,0,none⟩),.pointer (some ⟨w.heap.size+3,0,none⟩),.pointer (some ⟨w.heap.size+2,0,none⟩)]) wx:=fun wx=>gx7_0 wx
   have dO:=hJ (BX.new eP.out aD.out)
   have eW:=hJ (BX.new fU.out aD.out)
   have eI:=hJ (BX.new eS.out aD.out)
   have iF:=hJ (PF.new hP.out cM.out)
   have eX:=hJ (PF.new fJ.out cM.out)
   go_wp2_with fail
   clear hix
   refine (fda1_any p2 q2 p0 q0 s2 A2 n2 c2 t2 B2 m2 d2 s3 A3 n3 c3 t3 B3 m3 d3 s0 A0 n0 c0 t0 B0 m0 d0 s1 A1 n1 c1 t1 B1 m1 d1 w.heap.size (w.heap.size+3) (w.heap.size+2) wl10 dO.out eW.out eI.out iF.out eX.out fL.out eQ.out).mono ?_
   rw [eJ.out.1,eJ.out.2.1,eJ.out.2.2]
   rintro e w11 ⟨s11,A11,n11,c11,t11,B11,m11,d11,rfl,hr11,hb⟩
   have cR:=hJ hb
   have iG:=hJ hr11
   clear hb hr11
   by_cases hc:C0=0
   ·obtain rfl:=hc
    have aA:=hJ (BX.new cL.out cR.out)
    have iH:=aA.out.frozen 0
    have iI:=aA.out.cell 0 rfl
    have iJ:=aA.out.frozen 1
    have iK:=aA.out.cell 1 rfl
    have iL:=aA.out.frozen 2
    have iM:=aA.out.cell 2 rfl
    have iN:=aA.out.frozen 3
    have iO:=aA.out.cell 3 rfl
    obtain ⟨x12,fX⟩:=nmz (World.setCell (World.setCell (World.setCell (World.setCell w11 ⟨x1.heap.size,0,none⟩ (.bool s11)) ⟨x1.heap.size,1,none⟩ (.slice A11 n11 c11)) ⟨x1.heap.size,2,none⟩ (.bool t11)) ⟨x1.heap.size,3,none⟩ (.slice B11 m11 d11))
    have dP:=hJ (show sto w11 x1.heap.size 0 [.bool s11,.slice A11 n11 c11,.bool t11,.slice B11 m11 d11]=x12 from fX)
    have iP:=hJ (show BX 227 x12 x1.heap.size #[.bool s11,.slice A11 n11 c11,.bool t11,.slice B11 m11 d11,.bool aV,.slice aW aX aY,.bool aZ,.slice bA bB bC,.bool bD,.slice bE bF bG,.bool bH,.slice bJ bK bL,.bool bM,.slice bN bO bP,.bool bQ,.slice bR bS bT,.bool bU,.slice bV bW bX,.bool bY,.slice bZ cA cB,.bool cC,.slice cD cE cF,.bool cG,.slice cH cI cJ,.bool aE,.slice aF aG aH,.bool aI,.slice aJ aK aL] by rw [←dP.out]; exact BX.put aA.out _ _)
    have iQ:=hJ (show PF x12 s11 A11 n11 c11 t11 B11 m11 d11 P0 Q0 by rw [←dP.out]; exact PF.sto iG.out aA.out rfl _ _)
    have cS:=hJ (PF.new eC.out cR.out)
    have cT:=hJ (show PF x12 aV aW aX aY aZ bA bB bC y1_10 z1_10 by rw [←dP.out]; exact PF.sto cS.out aA.out rfl _ _)
    have cU:=hJ (PF.new eD.out cR.out)
    have cV:=hJ (show PF x12 bD bE bF bG bH bJ bK bL y2_10 z2_10 by rw [←dP.out]; exact PF.sto cU.out aA.out rfl _ _)
    have cW:=hJ (PF.new eE.out cR.out)
    have cX:=hJ (show PF x12 bM bN bO bP bQ bR bS bT y3_10 z3_10 by rw [←dP.out]; exact PF.sto cW.out aA.out rfl _ _)
    have cY:=hJ (PF.new eF.out cR.out)
    have cZ:=hJ (show PF x12 bU bV bW bX bY bZ cA cB y4_10 z4_10 by rw [←dP.out]; exact PF.sto cY.out aA.out rfl _ _)
    have dA:=hJ (PF.new eG.out cR.out)
    have dB:=hJ (show PF x12 cC cD cE cF cG cH cI cJ y5_10 z5_10 by rw [←dP.out]; exact PF.sto dA.out aA.out rfl _ _)
    have cN:=hJ (PF.new eH.out cR.out)
    have dD:=hJ (show PF x12 aE aF aG aH aI aJ aK aL y6_10 z6_10 by rw [←dP.out]; exact PF.sto cN.out aA.out rfl _ _)
    have aM:=hJ (show Below x1.heap.size x1 x12 by rw [←dP.out]; exact below_sto (bt aD.out cR.out) cK.out _ _)
    go_wp2_with fail
    clear iH iI iJ iK iL iM iN iO fX
    go_roundw
    case rel=>exact ⟨0+1,s11,A11,n11,c11,t11,B11,m11,d11,aV,aW,aX,aY,aZ,bA,bB,bC,bD,bE,bF,bG,bH,bJ,bK,bL,bM,bN,bO,bP,bQ,bR,bS,bT,bU,bV,bW,bX,bY,bZ,cA,cB,cC,cD,cE,cF,cG,cH,cI,cJ,aE,aF,aG,aH,aI,aJ,aK,aL,P0,Q0,y1_10,z1_10,y2_10,z2_10,y3_10,z3_10,y4_10,z4_10,y5_10,z5_10,y6_10,z6_10,by omega,by go_num,iP.out,iQ.out,cT.out,cV.out,cX.out,cZ.out,dB.out,dD.out,hJ (⟨fun _=>⟨rfl,rfl,by first | rfl | trivial⟩,fun h=>absurd h (by decide),fun h=>absurd h (by decide),fun h=>absurd h (by decide),fun h=>absurd h (by decide),fun h=>absurd h (by decide),fun h=>absurd h (by decide)⟩),aM.out⟩
    case measure=>simp [intOf] <;> omega
   have hcz:(C0 == 0)=false:=by simp [hc]
   have HV:=hJ (show feV [C0,C1,C2,C3,C4,C5,C6]=C0 from feV_n hc)
   have HN:=hJ hc
   clear hc
   have aA:=hJ (BX.new cL.out cR.out)
   have iR:=aA.out.frozen 0
   have iS:=aA.out.cell 0 rfl
   have iT:=aA.out.frozen 1
   have iU:=aA.out.cell 1 rfl
   have iV:=aA.out.frozen 2
   have iW:=aA.out.cell 2 rfl
   have iX:=aA.out.frozen 3
   have iY:=aA.out.cell 3 rfl
   obtain ⟨x13,fY⟩:=nmz (World.setCell (World.setCell (World.setCell (World.setCell w11 ⟨x1.heap.size,0,none⟩ (.bool s11)) ⟨x1.heap.size,1,none⟩ (.slice A11 n11 c11)) ⟨x1.heap.size,2,none⟩ (.bool t11)) ⟨x1.heap.size,3,none⟩ (.slice B11 m11 d11))
   have fZ:=hJ (show sto w11 x1.heap.size 0 [.bool s11,.slice A11 n11 c11,.bool t11,.slice B11 m11 d11]=x13 from fY)
   obtain ⟨x14,eY⟩:=nmz (x13.alloc (.cells #[.bool false,.slice none 0 0,.bool false,.slice none 0 0] 27))
   have gA:=hJ (show Below x13.heap.size x13 x14 by rw [←eY]; exact ((Below.refl _ _).alloc (Nat.le_refl _) _))
   have iZ:=hJ (show BX 27 x14 x13.heap.size #[.bool false,.slice none 0 0,.bool false,.slice none 0 0] by rw [←eY]; exact (BX.at rfl))
   obtain ⟨jA,jB,jC,jD⟩:=iZ.out.c4 0 1 2 3 rfl rfl rfl rfl
   have aM:=hJ (show Below x1.heap.size x1 x13 by rw [←fZ.out]; exact below_sto (bt aD.out cR.out) cK.out _ _)
   have cO:=hJ (bt aM.out gA.out)
   have aC:=hJ (BX.new dY.out cO.out)
   have jE:=aC.out.frozen 0
   have jF:=aC.out.cell 0 rfl
   have jG:=aC.out.frozen 1
   have jH:=aC.out.cell 1 rfl
   have jI:=aC.out.frozen 2
   have jJ:=aC.out.cell 2 rfl
   have jK:=aC.out.frozen 3
   have jL:=aC.out.cell 3 rfl
   obtain ⟨x19,gB⟩:=nmz (World.setCell (World.setCell (World.setCell (World.setCell x14 ⟨w.heap.size+5,0,none⟩ (.bool false)) ⟨w.heap.size+5,1,none⟩ (.slice none 0 0)) ⟨w.heap.size+5,2,none⟩ (.bool false)) ⟨w.heap.size+5,3,none⟩ (.slice none 0 0))
   have gC:=hJ (show sto x14 (w.heap.size+5) 0 [.bool false,.slice none 0 0,.bool false,.slice none 0 0]=x19 from gB)
   have jM:=hJ (show BX 27 x19 (w.heap.size+5) #[.bool false,.slice none 0 0,.bool false,.slice none 0 0] by rw [←gC.out]; exact BX.put aC.out _ _)
   have cP:=hJ (show Below w.heap.size w x13 by rw [←fZ.out]; exact below_sto (bt cM.out cR.out) (Nat.le_trans (dN.out).size cK.out) _ _)
   have cQ:=hJ (show Below w.heap.size w x19 by rw [←gC.out]; exact below_sto (bt cP.out gA.out) dZ.out _ _)
   go_wp2
   clear iR iS iT iU iV iW iX iY fY eY jA jB jC jD jE jF jG jH jI jJ jK jL gB
   exact bodyPost_ret (results_cell1 rfl _ _ _ _ _ _ _ rfl jM.out Tryz.underlying27 rfl F_size) rfl (by rw [HV.out,feP,feQ,if_neg HN.out,if_neg HN.out]; exact ⟨false,none,0,0,false,none,0,0,rfl,PF.zero _,cQ.out⟩)
  ·(try rw [show ((1:Nat):Int)=1 from rfl])
   obtain rfl:P0=y0_10:=(aB.out.1 (by decide)).1.symm
   obtain rfl:Q0=z0_10:=(aB.out.1 (by decide)).2.1.symm
   obtain rfl:C0=0:=(aB.out.1 (by decide)).2.2
   have hix:∀ wx,(Instr.index 229 (.agg #[.func (.func 163) #[] #[.pointer (some ⟨w.heap.size,0,none⟩),.pointer (some ⟨w.heap.size+3,0,none⟩),.pointer (some ⟨w.heap.size+2,0,none⟩)],.func (.func 164) #[] #[.pointer (some ⟨w.heap.size,0,none⟩),.pointer (some ⟨w.heap.size+4,0,none⟩),.pointer (some ⟨w.heap.size+2,0,none⟩)],.func (.func 165) #[] #[.pointer (some ⟨w.heap.size+1,0,none⟩),.pointer (some ⟨x1.heap.size,0,none⟩)],.func (.func 166) #[] #[.pointer (some ⟨w.heap.size,0,none⟩),.pointer (some ⟨w.heap.size+3,0,none⟩),.pointer (some ⟨w.heap.size+2,0,none⟩)],.func (.func 167) #[] #[.pointer (some ⟨w.heap.size,0,none⟩),.pointer (some ⟨w.heap.size+4,0,none⟩),.pointer (some ⟨w.heap.size+2,0,none⟩)],.func (.func 168) #[] #[.pointer (some ⟨w.heap.size+1,0,none⟩),.pointer (some ⟨x1.heap.size,0,none⟩)],.func (.func 169) #[] #[.pointer (some ⟨w.heap.size,0,none⟩),.pointer (some ⟨x1.heap.size,0,none⟩)]]) (.int .i64 1)).run Tryz.prog wx=.ok (.func (.func 164) #[] #[.pointer (some ⟨w.heap.size,0,none⟩),.pointer (some ⟨w.heap.size+4,0,none⟩),.pointer (some ⟨w.heap.size+2,0,none⟩)]) wx:=fun wx=>gx7_1 wx
   have dO:=hJ (BX.new eP.out aD.out)
   have eZ:=hJ (BX.new fV.out aD.out)
   have eI:=hJ (BX.new eS.out aD.out)
   have jN:=hJ (PF.new hS.out cM.out)
   have fA:=hJ (PF.new fK.out cM.out)
   go_wp2_with fail
   clear hix
   refine (fda2_any p5 q5 p1 q1 s4 A4 n4 c4 t4 B4 m4 d4 s5 A5 n5 c5 t5 B5 m5 d5 s0 A0 n0 c0 t0 B0 m0 d0 s1 A1 n1 c1 t1 B1 m1 d1 w.heap.size (w.heap.size+4) (w.heap.size+2) wl10 dO.out eZ.out eI.out jN.out fA.out fO.out eR.out).mono ?_
   rw [eK.out.1,eK.out.2.1,eK.out.2.2]
   rintro e w20 ⟨s12,A12,n12,c12,t12,B12,m12,d12,rfl,hr12,hb⟩
   have dE:=hJ hb
   have jO:=hJ hr12
   clear hb hr12
   by_cases hc:C1=0
   ·obtain rfl:=hc
    have aA:=hJ (BX.new cL.out dE.out)
    have jP:=aA.out.frozen 4
    have jQ:=aA.out.cell 4 rfl
    have jR:=aA.out.frozen 5
    have jS:=aA.out.cell 5 rfl
    have jT:=aA.out.frozen 6
    have jU:=aA.out.cell 6 rfl
    have jV:=aA.out.frozen 7
    have jW:=aA.out.cell 7 rfl
    obtain ⟨x21,gD⟩:=nmz (World.setCell (World.setCell (World.setCell (World.setCell w20 ⟨x1.heap.size,4,none⟩ (.bool s12)) ⟨x1.heap.size,5,none⟩ (.slice A12 n12 c12)) ⟨x1.heap.size,6,none⟩ (.bool t12)) ⟨x1.heap.size,7,none⟩ (.slice B12 m12 d12))
    have dQ:=hJ (show sto w20 x1.heap.size 4 [.bool s12,.slice A12 n12 c12,.bool t12,.slice B12 m12 d12]=x21 from gD)
    have jX:=hJ (show BX 227 x21 x1.heap.size #[.bool aN,.slice aO aP aQ,.bool aR,.slice aS aT aU,.bool s12,.slice A12 n12 c12,.bool t12,.slice B12 m12 d12,.bool bD,.slice bE bF bG,.bool bH,.slice bJ bK bL,.bool bM,.slice bN bO bP,.bool bQ,.slice bR bS bT,.bool bU,.slice bV bW bX,.bool bY,.slice bZ cA cB,.bool cC,.slice cD cE cF,.bool cG,.slice cH cI cJ,.bool aE,.slice aF aG aH,.bool aI,.slice aJ aK aL] by rw [←dQ.out]; exact BX.put aA.out _ _)
    have dF:=hJ (PF.new eB.out dE.out)
    have dG:=hJ (show PF x21 aN aO aP aQ aR aS aT aU P0 Q0 by rw [←dQ.out]; exact PF.sto dF.out aA.out rfl _ _)
    have jY:=hJ (show PF x21 s12 A12 n12 c12 t12 B12 m12 d12 P1 Q1 by rw [←dQ.out]; exact PF.sto jO.out aA.out rfl _ _)
    have cU:=hJ (PF.new eD.out dE.out)
    have cV:=hJ (show PF x21 bD bE bF bG bH bJ bK bL y2_10 z2_10 by rw [←dQ.out]; exact PF.sto cU.out aA.out rfl _ _)
    have cW:=hJ (PF.new eE.out dE.out)
    have cX:=hJ (show PF x21 bM bN bO bP bQ bR bS bT y3_10 z3_10 by rw [←dQ.out]; exact PF.sto cW.out aA.out rfl _ _)
    have cY:=hJ (PF.new eF.out dE.out)
    have cZ:=hJ (show PF x21 bU bV bW bX bY bZ cA cB y4_10 z4_10 by rw [←dQ.out]; exact PF.sto cY.out aA.out rfl _ _)
    have dA:=hJ (PF.new eG.out dE.out)
    have dB:=hJ (show PF x21 cC cD cE cF cG cH cI cJ y5_10 z5_10 by rw [←dQ.out]; exact PF.sto dA.out aA.out rfl _ _)
    have cN:=hJ (PF.new eH.out dE.out)
    have dD:=hJ (show PF x21 aE aF aG aH aI aJ aK aL y6_10 z6_10 by rw [←dQ.out]; exact PF.sto cN.out aA.out rfl _ _)
    have aM:=hJ (show Below x1.heap.size x1 x21 by rw [←dQ.out]; exact below_sto (bt aD.out dE.out) cK.out _ _)
    go_wp2_with fail
    clear jP jQ jR jS jT jU jV jW gD
    go_roundw
    case rel=>exact ⟨1+1,aN,aO,aP,aQ,aR,aS,aT,aU,s12,A12,n12,c12,t12,B12,m12,d12,bD,bE,bF,bG,bH,bJ,bK,bL,bM,bN,bO,bP,bQ,bR,bS,bT,bU,bV,bW,bX,bY,bZ,cA,cB,cC,cD,cE,cF,cG,cH,cI,cJ,aE,aF,aG,aH,aI,aJ,aK,aL,P0,Q0,P1,Q1,y2_10,z2_10,y3_10,z3_10,y4_10,z4_10,y5_10,z5_10,y6_10,z6_10,by omega,by go_num,jX.out,dG.out,jY.out,cV.out,cX.out,cZ.out,dB.out,dD.out,hJ (⟨fun _=>⟨rfl,rfl,by first | rfl | trivial⟩,fun _=>⟨rfl,rfl,by first | rfl | trivial⟩,fun h=>absurd h (by decide),fun h=>absurd h (by decide),fun h=>absurd h (by decide),fun h=>absurd h (by decide),fun h=>absurd h (by decide)⟩),aM.out⟩
    case measure=>simp [intOf] <;> omega
   have hcz:(C1 == 0)=false:=by simp [hc]
   have HV:=hJ (show feV [0,C1,C2,C3,C4,C5,C6]=C1 from feV_n hc)
   have HN:=hJ hc
   clear hc
   have aA:=hJ (BX.new cL.out dE.out)
   have jZ:=aA.out.frozen 4
   have kA:=aA.out.cell 4 rfl
   have kB:=aA.out.frozen 5
   have kC:=aA.out.cell 5 rfl
   have kD:=aA.out.frozen 6
   have kE:=aA.out.cell 6 rfl
   have kF:=aA.out.frozen 7
   have kG:=aA.out.cell 7 rfl
   obtain ⟨x22,gE⟩:=nmz (World.setCell (World.setCell (World.setCell (World.setCell w20 ⟨x1.heap.size,4,none⟩ (.bool s12)) ⟨x1.heap.size,5,none⟩ (.slice A12 n12 c12)) ⟨x1.heap.size,6,none⟩ (.bool t12)) ⟨x1.heap.size,7,none⟩ (.slice B12 m12 d12))
   have gF:=hJ (show sto w20 x1.heap.size 4 [.bool s12,.slice A12 n12 c12,.bool t12,.slice B12 m12 d12]=x22 from gE)
   obtain ⟨x23,fB⟩:=nmz (x22.alloc (.cells #[.bool false,.slice none 0 0,.bool false,.slice none 0 0] 27))
   have gG:=hJ (show Below x22.heap.size x22 x23 by rw [←fB]; exact ((Below.refl _ _).alloc (Nat.le_refl _) _))
   have kH:=hJ (show BX 27 x23 x22.heap.size #[.bool false,.slice none 0 0,.bool false,.slice none 0 0] by rw [←fB]; exact (BX.at rfl))
   obtain ⟨kI,kJ,kK,kL⟩:=kH.out.c4 0 1 2 3 rfl rfl rfl rfl
   have aM:=hJ (show Below x1.heap.size x1 x22 by rw [←gF.out]; exact below_sto (bt aD.out dE.out) cK.out _ _)
   have cO:=hJ (bt aM.out gG.out)
   have aC:=hJ (BX.new dY.out cO.out)
   have kM:=aC.out.frozen 0
   have kN:=aC.out.cell 0 rfl
   have kO:=aC.out.frozen 1
   have kP:=aC.out.cell 1 rfl
   have kQ:=aC.out.frozen 2
   have kR:=aC.out.cell 2 rfl
   have kS:=aC.out.frozen 3
   have kT:=aC.out.cell 3 rfl
   obtain ⟨x28,gH⟩:=nmz (World.setCell (World.setCell (World.setCell (World.setCell x23 ⟨w.heap.size+5,0,none⟩ (.bool false)) ⟨w.heap.size+5,1,none⟩ (.slice none 0 0)) ⟨w.heap.size+5,2,none⟩ (.bool false)) ⟨w.heap.size+5,3,none⟩ (.slice none 0 0))
   have gI:=hJ (show sto x23 (w.heap.size+5) 0 [.bool false,.slice none 0 0,.bool false,.slice none 0 0]=x28 from gH)
   have kU:=hJ (show BX 27 x28 (w.heap.size+5) #[.bool false,.slice none 0 0,.bool false,.slice none 0 0] by rw [←gI.out]; exact BX.put aC.out _ _)
   have cP:=hJ (show Below w.heap.size w x22 by rw [←gF.out]; exact below_sto (bt cM.out dE.out) (Nat.le_trans (dN.out).size cK.out) _ _)
   have cQ:=hJ (show Below w.heap.size w x28 by rw [←gI.out]; exact below_sto (bt cP.out gG.out) dZ.out _ _)
   go_wp2
   clear jZ kA kB kC kD kE kF kG gE fB kI kJ kK kL kM kN kO kP kQ kR kS kT gH
   exact bodyPost_ret (results_cell1 rfl _ _ _ _ _ _ _ rfl kU.out Tryz.underlying27 rfl F_size) rfl (by rw [HV.out,feP,feQ,if_neg HN.out,if_neg HN.out]; exact ⟨false,none,0,0,false,none,0,0,rfl,PF.zero _,cQ.out⟩)
  ·(try rw [show ((2:Nat):Int)=2 from rfl])
   obtain rfl:P0=y0_10:=(aB.out.1 (by decide)).1.symm
   obtain rfl:Q0=z0_10:=(aB.out.1 (by decide)).2.1.symm
   obtain rfl:C0=0:=(aB.out.1 (by decide)).2.2
   obtain rfl:P1=y1_10:=(aB.out.2.1 (by decide)).1.symm
   obtain rfl:Q1=z1_10:=(aB.out.2.1 (by decide)).2.1.symm
   obtain rfl:C1=0:=(aB.out.2.1 (by decide)).2.2
   have hix:∀ wx,(Instr.index 229 (.agg #[.func (.func 163) #[] #[.pointer (some ⟨w.heap.size,0,none⟩),.pointer (some ⟨w.heap.size+3,0,none⟩),.pointer (some ⟨w.heap.size+2,0,none⟩)],.func (.func 164) #[] #[.pointer (some ⟨w.heap.size,0,none⟩),.pointer (some ⟨w.heap.size+4,0,none⟩),.pointer (some ⟨w.heap.size+2,0,none⟩)],.func (.func 165) #[] #[.pointer (some ⟨w.heap.size+1,0,none⟩),.pointer (some ⟨x1.heap.size,0,none⟩)],.func (.func 166) #[] #[.pointer (some ⟨w.heap.size,0,none⟩),.pointer (some ⟨w.heap.size+3,0,none⟩),.pointer (some ⟨w.heap.size+2,0,none⟩)],.func (.func 167) #[] #[.pointer (some ⟨w.heap.size,0,none⟩),.pointer (some ⟨w.heap.size+4,0,none⟩),.pointer (some ⟨w.heap.size+2,0,none⟩)],.func (.func 168) #[] #[.pointer (some ⟨w.heap.size+1,0,none⟩),.pointer (some ⟨x1.heap.size,0,none⟩)],.func (.func 169) #[] #[.pointer (some ⟨w.heap.size,0,none⟩),.pointer (some ⟨x1.heap.size,0,none⟩)]]) (.int .i64 2)).run Tryz.prog wx=.ok (.func (.func 165) #[] #[.pointer (some ⟨w.heap.size+1,0,none⟩),.pointer (some ⟨x1.heap.size,0,none⟩)]) wx:=fun wx=>gx7_2 wx
   have fC:=hJ (BX.new fT.out aD.out)
   go_wp2_with fail
   clear hix
   refine (fda3_any P0 Q0 P1 Q1 aN aO aP aQ aR aS aT aU aV aW aX aY aZ bA bB bC bD bE bF bG bH bJ bK bL bM bN bO bP bQ bR bS bT bU bV bW bX bY bZ cA cB cC cD cE cF cG cH cI cJ aE aF aG aH aI aJ aK aL (w.heap.size+1) x1.heap.size wl10 fC.out cL.out eB.out eC.out fP.out fQ.out).mono ?_
   rw [eL.out.1,eL.out.2.1,eL.out.2.2]
   rintro e w29 ⟨s13,A13,n13,c13,t13,B13,m13,d13,rfl,hr13,hb⟩
   have dH:=hJ hb
   have kV:=hJ hr13
   clear hb hr13
   by_cases hc:C2=0
   ·obtain rfl:=hc
    have aA:=hJ (BX.new cL.out dH.out)
    have kW:=aA.out.frozen 8
    have kX:=aA.out.cell 8 rfl
    have kY:=aA.out.frozen 9
    have kZ:=aA.out.cell 9 rfl
    have lA:=aA.out.frozen 10
    have lB:=aA.out.cell 10 rfl
    have lC:=aA.out.frozen 11
    have lD:=aA.out.cell 11 rfl
    obtain ⟨x30,gJ⟩:=nmz (World.setCell (World.setCell (World.setCell (World.setCell w29 ⟨x1.heap.size,8,none⟩ (.bool s13)) ⟨x1.heap.size,9,none⟩ (.slice A13 n13 c13)) ⟨x1.heap.size,10,none⟩ (.bool t13)) ⟨x1.heap.size,11,none⟩ (.slice B13 m13 d13))
    have dR:=hJ (show sto w29 x1.heap.size 8 [.bool s13,.slice A13 n13 c13,.bool t13,.slice B13 m13 d13]=x30 from gJ)
    have lE:=hJ (show BX 227 x30 x1.heap.size #[.bool aN,.slice aO aP aQ,.bool aR,.slice aS aT aU,.bool aV,.slice aW aX aY,.bool aZ,.slice bA bB bC,.bool s13,.slice A13 n13 c13,.bool t13,.slice B13 m13 d13,.bool bM,.slice bN bO bP,.bool bQ,.slice bR bS bT,.bool bU,.slice bV bW bX,.bool bY,.slice bZ cA cB,.bool cC,.slice cD cE cF,.bool cG,.slice cH cI cJ,.bool aE,.slice aF aG aH,.bool aI,.slice aJ aK aL] by rw [←dR.out]; exact BX.put aA.out _ _)
    have dF:=hJ (PF.new eB.out dH.out)
    have dG:=hJ (show PF x30 aN aO aP aQ aR aS aT aU P0 Q0 by rw [←dR.out]; exact PF.sto dF.out aA.out rfl _ _)
    have cS:=hJ (PF.new eC.out dH.out)
    have cT:=hJ (show PF x30 aV aW aX aY aZ bA bB bC P1 Q1 by rw [←dR.out]; exact PF.sto cS.out aA.out rfl _ _)
    have lF:=hJ (show PF x30 s13 A13 n13 c13 t13 B13 m13 d13 P2 Q2 by rw [←dR.out]; exact PF.sto kV.out aA.out rfl _ _)
    have cW:=hJ (PF.new eE.out dH.out)
    have cX:=hJ (show PF x30 bM bN bO bP bQ bR bS bT y3_10 z3_10 by rw [←dR.out]; exact PF.sto cW.out aA.out rfl _ _)
    have cY:=hJ (PF.new eF.out dH.out)
    have cZ:=hJ (show PF x30 bU bV bW bX bY bZ cA cB y4_10 z4_10 by rw [←dR.out]; exact PF.sto cY.out aA.out rfl _ _)
    have dA:=hJ (PF.new eG.out dH.out)
    have dB:=hJ (show PF x30 cC cD cE cF cG cH cI cJ y5_10 z5_10 by rw [←dR.out]; exact PF.sto dA.out aA.out rfl _ _)
    have cN:=hJ (PF.new eH.out dH.out)
    have dD:=hJ (show PF x30 aE aF aG aH aI aJ aK aL y6_10 z6_10 by rw [←dR.out]; exact PF.sto cN.out aA.out rfl _ _)
    have aM:=hJ (show Below x1.heap.size x1 x30 by rw [←dR.out]; exact below_sto (bt aD.out dH.out) cK.out _ _)
    go_wp2_with fail
    clear kW kX kY kZ lA lB lC lD gJ
    go_roundw
    case rel=>exact ⟨2+1,aN,aO,aP,aQ,aR,aS,aT,aU,aV,aW,aX,aY,aZ,bA,bB,bC,s13,A13,n13,c13,t13,B13,m13,d13,bM,bN,bO,bP,bQ,bR,bS,bT,bU,bV,bW,bX,bY,bZ,cA,cB,cC,cD,cE,cF,cG,cH,cI,cJ,aE,aF,aG,aH,aI,aJ,aK,aL,P0,Q0,P1,Q1,P2,Q2,y3_10,z3_10,y4_10,z4_10,y5_10,z5_10,y6_10,z6_10,by omega,by go_num,lE.out,dG.out,cT.out,lF.out,cX.out,cZ.out,dB.out,dD.out,hJ (⟨fun _=>⟨rfl,rfl,by first | rfl | trivial⟩,fun _=>⟨rfl,rfl,by first | rfl | trivial⟩,fun _=>⟨rfl,rfl,by first | rfl | trivial⟩,fun h=>absurd h (by decide),fun h=>absurd h (by decide),fun h=>absurd h (by decide),fun h=>absurd h (by decide)⟩),aM.out⟩
    case measure=>simp [intOf] <;> omega
   have hcz:(C2 == 0)=false:=by simp [hc]
   have HV:=hJ (show feV [0,0,C2,C3,C4,C5,C6]=C2 from feV_n hc)
   have HN:=hJ hc
   clear hc
   have aA:=hJ (BX.new cL.out dH.out)
   have lG:=aA.out.frozen 8
   have lH:=aA.out.cell 8 rfl
   have lI:=aA.out.frozen 9
   have lJ:=aA.out.cell 9 rfl
   have lK:=aA.out.frozen 10
   have lL:=aA.out.cell 10 rfl
   have lM:=aA.out.frozen 11
   have lN:=aA.out.cell 11 rfl
   obtain ⟨x31,gK⟩:=nmz (World.setCell (World.setCell (World.setCell (World.setCell w29 ⟨x1.heap.size,8,none⟩ (.bool s13)) ⟨x1.heap.size,9,none⟩ (.slice A13 n13 c13)) ⟨x1.heap.size,10,none⟩ (.bool t13)) ⟨x1.heap.size,11,none⟩ (.slice B13 m13 d13))
   have gL:=hJ (show sto w29 x1.heap.size 8 [.bool s13,.slice A13 n13 c13,.bool t13,.slice B13 m13 d13]=x31 from gK)
   obtain ⟨x32,fD⟩:=nmz (x31.alloc (.cells #[.bool false,.slice none 0 0,.bool false,.slice none 0 0] 27))
   have gM:=hJ (show Below x31.heap.size x31 x32 by rw [←fD]; exact ((Below.refl _ _).alloc (Nat.le_refl _) _))
   have lO:=hJ (show BX 27 x32 x31.heap.size #[.bool false,.slice none 0 0,.bool false,.slice none 0 0] by rw [←fD]; exact (BX.at rfl))
   obtain ⟨lP,lQ,lR,lS⟩:=lO.out.c4 0 1 2 3 rfl rfl rfl rfl
   have aM:=hJ (show Below x1.heap.size x1 x31 by rw [←gL.out]; exact below_sto (bt aD.out dH.out) cK.out _ _)
   have cO:=hJ (bt aM.out gM.out)
   have aC:=hJ (BX.new dY.out cO.out)
   have lT:=aC.out.frozen 0
   have lU:=aC.out.cell 0 rfl
   have lV:=aC.out.frozen 1
   have lW:=aC.out.cell 1 rfl
   have lX:=aC.out.frozen 2
   have lY:=aC.out.cell 2 rfl
   have lZ:=aC.out.frozen 3
   have mA:=aC.out.cell 3 rfl
   obtain ⟨x37,gN⟩:=nmz (World.setCell (World.setCell (World.setCell (World.setCell x32 ⟨w.heap.size+5,0,none⟩ (.bool false)) ⟨w.heap.size+5,1,none⟩ (.slice none 0 0)) ⟨w.heap.size+5,2,none⟩ (.bool false)) ⟨w.heap.size+5,3,none⟩ (.slice none 0 0))
   have gO:=hJ (show sto x32 (w.heap.size+5) 0 [.bool false,.slice none 0 0,.bool false,.slice none 0 0]=x37 from gN)
   have mB:=hJ (show BX 27 x37 (w.heap.size+5) #[.bool false,.slice none 0 0,.bool false,.slice none 0 0] by rw [←gO.out]; exact BX.put aC.out _ _)
   have cP:=hJ (show Below w.heap.size w x31 by rw [←gL.out]; exact below_sto (bt cM.out dH.out) (Nat.le_trans (dN.out).size cK.out) _ _)
   have cQ:=hJ (show Below w.heap.size w x37 by rw [←gO.out]; exact below_sto (bt cP.out gM.out) dZ.out _ _)
   go_wp2
   clear lG lH lI lJ lK lL lM lN gK fD lP lQ lR lS lT lU lV lW lX lY lZ mA gN
   exact bodyPost_ret (results_cell1 rfl _ _ _ _ _ _ _ rfl mB.out Tryz.underlying27 rfl F_size) rfl (by rw [HV.out,feP,feQ,if_neg HN.out,if_neg HN.out]; exact ⟨false,none,0,0,false,none,0,0,rfl,PF.zero _,cQ.out⟩)
  ·(try rw [show ((3:Nat):Int)=3 from rfl])
   obtain rfl:P0=y0_10:=(aB.out.1 (by decide)).1.symm
   obtain rfl:Q0=z0_10:=(aB.out.1 (by decide)).2.1.symm
   obtain rfl:C0=0:=(aB.out.1 (by decide)).2.2
   obtain rfl:P1=y1_10:=(aB.out.2.1 (by decide)).1.symm
   obtain rfl:Q1=z1_10:=(aB.out.2.1 (by decide)).2.1.symm
   obtain rfl:C1=0:=(aB.out.2.1 (by decide)).2.2
   obtain rfl:P2=y2_10:=(aB.out.2.2.1 (by decide)).1.symm
   obtain rfl:Q2=z2_10:=(aB.out.2.2.1 (by decide)).2.1.symm
   obtain rfl:C2=0:=(aB.out.2.2.1 (by decide)).2.2
   have hix:∀ wx,(Instr.index 229 (.agg #[.func (.func 163) #[] #[.pointer (some ⟨w.heap.size,0,none⟩),.pointer (some ⟨w.heap.size+3,0,none⟩),.pointer (some ⟨w.heap.size+2,0,none⟩)],.func (.func 164) #[] #[.pointer (some ⟨w.heap.size,0,none⟩),.pointer (some ⟨w.heap.size+4,0,none⟩),.pointer (some ⟨w.heap.size+2,0,none⟩)],.func (.func 165) #[] #[.pointer (some ⟨w.heap.size+1,0,none⟩),.pointer (some ⟨x1.heap.size,0,none⟩)],.func (.func 166) #[] #[.pointer (some ⟨w.heap.size,0,none⟩),.pointer (some ⟨w.heap.size+3,0,none⟩),.pointer (some ⟨w.heap.size+2,0,none⟩)],.func (.func 167) #[] #[.pointer (some ⟨w.heap.size,0,none⟩),.pointer (some ⟨w.heap.size+4,0,none⟩),.pointer (some ⟨w.heap.size+2,0,none⟩)],.func (.func 168) #[] #[.pointer (some ⟨w.heap.size+1,0,none⟩),.pointer (some ⟨x1.heap.size,0,none⟩)],.func (.func 169) #[] #[.pointer (some ⟨w.heap.size,0,none⟩),.pointer (some ⟨x1.heap.size,0,none⟩)]]) (.int .i64 3)).run Tryz.prog wx=.ok (.func (.func 166) #[] #[.pointer (some ⟨w.heap.size,0,none⟩),.pointer (some ⟨w.heap.size+3,0,none⟩),.pointer (some ⟨w.heap.size+2,0,none⟩)]) wx:=fun wx=>gx7_3 wx
   have dO:=hJ (BX.new eP.out aD.out)
   have eW:=hJ (BX.new fU.out aD.out)
   have eI:=hJ (BX.new eS.out aD.out)
   have mC:=hJ (PF.new hQ.out cM.out)
   have fA:=hJ (PF.new fK.out cM.out)
   go_wp2_with fail
   clear hix
   refine (fda4_any p3 q3 p1 q1 s2 A2 n2 c2 t2 B2 m2 d2 s3 A3 n3 c3 t3 B3 m3 d3 s0 A0 n0 c0 t0 B0 m0 d0 s1 A1 n1 c1 t1 B1 m1 d1 w.heap.size (w.heap.size+3) (w.heap.size+2) wl10 dO.out eW.out eI.out mC.out fA.out fM.out eR.out).mono ?_
   rw [eM.out.1,eM.out.2.1,eM.out.2.2]
   rintro e w38 ⟨s14,A14,n14,c14,t14,B14,m14,d14,rfl,hr14,hb⟩
   have dI:=hJ hb
   have mD:=hJ hr14
   clear hb hr14
   by_cases hc:C3=0
   ·obtain rfl:=hc
    have aA:=hJ (BX.new cL.out dI.out)
    have mE:=aA.out.frozen 12
    have mF:=aA.out.cell 12 rfl
    have mG:=aA.out.frozen 13
    have mH:=aA.out.cell 13 rfl
    have mI:=aA.out.frozen 14
    have mJ:=aA.out.cell 14 rfl
    have mK:=aA.out.frozen 15
    have mL:=aA.out.cell 15 rfl
    obtain ⟨x39,gP⟩:=nmz (World.setCell (World.setCell (World.setCell (World.setCell w38 ⟨x1.heap.size,12,none⟩ (.bool s14)) ⟨x1.heap.size,13,none⟩ (.slice A14 n14 c14)) ⟨x1.heap.size,14,none⟩ (.bool t14)) ⟨x1.heap.size,15,none⟩ (.slice B14 m14 d14))
    have dS:=hJ (show sto w38 x1.heap.size 12 [.bool s14,.slice A14 n14 c14,.bool t14,.slice B14 m14 d14]=x39 from gP)
    have mM:=hJ (show BX 227 x39 x1.heap.size #[.bool aN,.slice aO aP aQ,.bool aR,.slice aS aT aU,.bool aV,.slice aW aX aY,.bool aZ,.slice bA bB bC,.bool bD,.slice bE bF bG,.bool bH,.slice bJ bK bL,.bool s14,.slice A14 n14 c14,.bool t14,.slice B14 m14 d14,.bool bU,.slice bV bW bX,.bool bY,.slice bZ cA cB,.bool cC,.slice cD cE cF,.bool cG,.slice cH cI cJ,.bool aE,.slice aF aG aH,.bool aI,.slice aJ aK aL] by rw [←dS.out]; exact BX.put aA.out _ _)
    have dF:=hJ (PF.new eB.out dI.out)
    have dG:=hJ (show PF x39 aN aO aP aQ aR aS aT aU P0 Q0 by rw [←dS.out]; exact PF.sto dF.out aA.out rfl _ _)
    have cS:=hJ (PF.new eC.out dI.out)
    have cT:=hJ (show PF x39 aV aW aX aY aZ bA bB bC P1 Q1 by rw [←dS.out]; exact PF.sto cS.out aA.out rfl _ _)
    have cU:=hJ (PF.new eD.out dI.out)
    have cV:=hJ (show PF x39 bD bE bF bG bH bJ bK bL P2 Q2 by rw [←dS.out]; exact PF.sto cU.out aA.out rfl _ _)
    have mN:=hJ (show PF x39 s14 A14 n14 c14 t14 B14 m14 d14 P3 Q3 by rw [←dS.out]; exact PF.sto mD.out aA.out rfl _ _)
    have cY:=hJ (PF.new eF.out dI.out)
    have cZ:=hJ (show PF x39 bU bV bW bX bY bZ cA cB y4_10 z4_10 by rw [←dS.out]; exact PF.sto cY.out aA.out rfl _ _)
    have dA:=hJ (PF.new eG.out dI.out)
    have dB:=hJ (show PF x39 cC cD cE cF cG cH cI cJ y5_10 z5_10 by rw [←dS.out]; exact PF.sto dA.out aA.out rfl _ _)
    have cN:=hJ (PF.new eH.out dI.out)
    have dD:=hJ (show PF x39 aE aF aG aH aI aJ aK aL y6_10 z6_10 by rw [←dS.out]; exact PF.sto cN.out aA.out rfl _ _)
    have aM:=hJ (show Below x1.heap.size x1 x39 by rw [←dS.out]; exact below_sto (bt aD.out dI.out) cK.out _ _)
    go_wp2_with fail
    clear mE mF mG mH mI mJ mK mL gP
    go_roundw
    case rel=>exact ⟨3+1,aN,aO,aP,aQ,aR,aS,aT,aU,aV,aW,aX,aY,aZ,bA,bB,bC,bD,bE,bF,bG,bH,bJ,bK,bL,s14,A14,n14,c14,t14,B14,m14,d14,bU,bV,bW,bX,bY,bZ,cA,cB,cC,cD,cE,cF,cG,cH,cI,cJ,aE,aF,aG,aH,aI,aJ,aK,aL,P0,Q0,P1,Q1,P2,Q2,P3,Q3,y4_10,z4_10,y5_10,z5_10,y6_10,z6_10,by omega,by go_num,mM.out,dG.out,cT.out,cV.out,mN.out,cZ.out,dB.out,dD.out,hJ (⟨fun _=>⟨rfl,rfl,by first | rfl | trivial⟩,fun _=>⟨rfl,rfl,by first | rfl | trivial⟩,fun _=>⟨rfl,rfl,by first | rfl | trivial⟩,fun _=>⟨rfl,rfl,by first | rfl | trivial⟩,fun h=>absurd h (by decide),fun h=>absurd h (by decide),fun h=>absurd h (by decide)⟩),aM.out⟩
    case measure=>simp [intOf] <;> omega
   have hcz:(C3 == 0)=false:=by simp [hc]
   have HV:=hJ (show feV [0,0,0,C3,C4,C5,C6]=C3 from feV_n hc)
   have HN:=hJ hc
   clear hc
   have aA:=hJ (BX.new cL.out dI.out)
   have mO:=aA.out.frozen 12
   have mP:=aA.out.cell 12 rfl
   have mQ:=aA.out.frozen 13
   have mR:=aA.out.cell 13 rfl
   have mS:=aA.out.frozen 14
   have mT:=aA.out.cell 14 rfl
   have mU:=aA.out.frozen 15
   have mV:=aA.out.cell 15 rfl
   obtain ⟨x40,gQ⟩:=nmz (World.setCell (World.setCell (World.setCell (World.setCell w38 ⟨x1.heap.size,12,none⟩ (.bool s14)) ⟨x1.heap.size,13,none⟩ (.slice A14 n14 c14)) ⟨x1.heap.size,14,none⟩ (.bool t14)) ⟨x1.heap.size,15,none⟩ (.slice B14 m14 d14))
   have gR:=hJ (show sto w38 x1.heap.size 12 [.bool s14,.slice A14 n14 c14,.bool t14,.slice B14 m14 d14]=x40 from gQ)
   obtain ⟨x41,fE⟩:=nmz (x40.alloc (.cells #[.bool false,.slice none 0 0,.bool false,.slice none 0 0] 27))
   have gS:=hJ (show Below x40.heap.size x40 x41 by rw [←fE]; exact ((Below.refl _ _).alloc (Nat.le_refl _) _))
   have mW:=hJ (show BX 27 x41 x40.heap.size #[.bool false,.slice none 0 0,.bool false,.slice none 0 0] by rw [←fE]; exact (BX.at rfl))
   obtain ⟨mX,mY,mZ,nA⟩:=mW.out.c4 0 1 2 3 rfl rfl rfl rfl
   have aM:=hJ (show Below x1.heap.size x1 x40 by rw [←gR.out]; exact below_sto (bt aD.out dI.out) cK.out _ _)
   have cO:=hJ (bt aM.out gS.out)
   have aC:=hJ (BX.new dY.out cO.out)
   have nB:=aC.out.frozen 0
   have nC:=aC.out.cell 0 rfl
   have nD:=aC.out.frozen 1
   have nE:=aC.out.cell 1 rfl
   have nF:=aC.out.frozen 2
   have nG:=aC.out.cell 2 rfl
   have nH:=aC.out.frozen 3
   have nJ:=aC.out.cell 3 rfl
   obtain ⟨x46,gT⟩:=nmz (World.setCell (World.setCell (World.setCell (World.setCell x41 ⟨w.heap.size+5,0,none⟩ (.bool false)) ⟨w.heap.size+5,1,none⟩ (.slice none 0 0)) ⟨w.heap.size+5,2,none⟩ (.bool false)) ⟨w.heap.size+5,3,none⟩ (.slice none 0 0))
   have gU:=hJ (show sto x41 (w.heap.size+5) 0 [.bool false,.slice none 0 0,.bool false,.slice none 0 0]=x46 from gT)
   have nK:=hJ (show BX 27 x46 (w.heap.size+5) #[.bool false,.slice none 0 0,.bool false,.slice none 0 0] by rw [←gU.out]; exact BX.put aC.out _ _)
   have cP:=hJ (show Below w.heap.size w x40 by rw [←gR.out]; exact below_sto (bt cM.out dI.out) (Nat.le_trans (dN.out).size cK.out) _ _)
   have cQ:=hJ (show Below w.heap.size w x46 by rw [←gU.out]; exact below_sto (bt cP.out gS.out) dZ.out _ _)
   go_wp2
   clear mO mP mQ mR mS mT mU mV gQ fE mX mY mZ nA nB nC nD nE nF nG nH nJ gT
   exact bodyPost_ret (results_cell1 rfl _ _ _ _ _ _ _ rfl nK.out Tryz.underlying27 rfl F_size) rfl (by rw [HV.out,feP,feQ,if_neg HN.out,if_neg HN.out]; exact ⟨false,none,0,0,false,none,0,0,rfl,PF.zero _,cQ.out⟩)
  ·(try rw [show ((4:Nat):Int)=4 from rfl])
   obtain rfl:P0=y0_10:=(aB.out.1 (by decide)).1.symm
   obtain rfl:Q0=z0_10:=(aB.out.1 (by decide)).2.1.symm
   obtain rfl:C0=0:=(aB.out.1 (by decide)).2.2
   obtain rfl:P1=y1_10:=(aB.out.2.1 (by decide)).1.symm
   obtain rfl:Q1=z1_10:=(aB.out.2.1 (by decide)).2.1.symm
   obtain rfl:C1=0:=(aB.out.2.1 (by decide)).2.2
   obtain rfl:P2=y2_10:=(aB.out.2.2.1 (by decide)).1.symm
   obtain rfl:Q2=z2_10:=(aB.out.2.2.1 (by decide)).2.1.symm
   obtain rfl:C2=0:=(aB.out.2.2.1 (by decide)).2.2
   obtain rfl:P3=y3_10:=(aB.out.2.2.2.1 (by decide)).1.symm
   obtain rfl:Q3=z3_10:=(aB.out.2.2.2.1 (by decide)).2.1.symm
   obtain rfl:C3=0:=(aB.out.2.2.2.1 (by decide)).2.2
   have hix:∀ wx,(Instr.index 229 (.agg #[.func (.func 163) #[] #[.pointer (some ⟨w.heap.size,0,none⟩),.pointer (some ⟨w.heap.size+3,0,none⟩),.pointer (some ⟨w.heap.size+2,0,none⟩)],.func (.func 164) #[] #[.pointer (some ⟨w.heap.size,0,none⟩),.pointer (some ⟨w.heap.size+4,0,none⟩),.pointer (some ⟨w.heap.size+2,0,none⟩)],.func (.func 165) #[] #[.pointer (some ⟨w.heap.size+1,0,none⟩),.pointer (some ⟨x1.heap.size,0,none⟩)],.func (.func 166) #[] #[.pointer (some ⟨w.heap.size,0,none⟩),.pointer (some ⟨w.heap.size+3,0,none⟩),.pointer (some ⟨w.heap.size+2,0,none⟩)],.func (.func 167) #[] #[.pointer (some ⟨w.heap.size,0,none⟩),.pointer (some ⟨w.heap.size+4,0,none⟩),.pointer (some ⟨w.heap.size+2,0,none⟩)],.func (.func 168) #[] #[.pointer (some ⟨w.heap.size+1,0,none⟩),.pointer (some ⟨x1.heap.size,0,none⟩)],.func (.func 169) #[] #[.pointer (some ⟨w.heap.size,0,none⟩),.pointer (some ⟨x1.heap.size,0,none⟩)]]) (.int .i64 4)).run Tryz.prog wx=.ok (.func (.func 167) #[] #[.pointer (some ⟨w.heap.size,0,none⟩),.pointer (some ⟨w.heap.size+4,0,none⟩),.pointer (some ⟨w.heap.size+2,0,none⟩)]) wx:=fun wx=>gx7_4 wx
   have dO:=hJ (BX.new eP.out aD.out)
   have eZ:=hJ (BX.new fV.out aD.out)
   have eI:=hJ (BX.new eS.out aD.out)
   have nL:=hJ (PF.new hR.out cM.out)
   have eX:=hJ (PF.new fJ.out cM.out)
   go_wp2_with fail
   clear hix
   refine (fda5_any p4 q4 p0 q0 s4 A4 n4 c4 t4 B4 m4 d4 s5 A5 n5 c5 t5 B5 m5 d5 s0 A0 n0 c0 t0 B0 m0 d0 s1 A1 n1 c1 t1 B1 m1 d1 w.heap.size (w.heap.size+4) (w.heap.size+2) wl10 dO.out eZ.out eI.out nL.out eX.out fN.out eQ.out).mono ?_
   rw [eN.out.1,eN.out.2.1,eN.out.2.2]
   rintro e w47 ⟨s15,A15,n15,c15,t15,B15,m15,d15,rfl,hr15,hb⟩
   have dJ:=hJ hb
   have nM:=hJ hr15
   clear hb hr15
   by_cases hc:C4=0
   ·obtain rfl:=hc
    have aA:=hJ (BX.new cL.out dJ.out)
    have nN:=aA.out.frozen 16
    have nO:=aA.out.cell 16 rfl
    have nP:=aA.out.frozen 17
    have nQ:=aA.out.cell 17 rfl
    have nR:=aA.out.frozen 18
    have nS:=aA.out.cell 18 rfl
    have nT:=aA.out.frozen 19
    have nU:=aA.out.cell 19 rfl
    obtain ⟨x48,gV⟩:=nmz (World.setCell (World.setCell (World.setCell (World.setCell w47 ⟨x1.heap.size,16,none⟩ (.bool s15)) ⟨x1.heap.size,17,none⟩ (.slice A15 n15 c15)) ⟨x1.heap.size,18,none⟩ (.bool t15)) ⟨x1.heap.size,19,none⟩ (.slice B15 m15 d15))
    have dT:=hJ (show sto w47 x1.heap.size 16 [.bool s15,.slice A15 n15 c15,.bool t15,.slice B15 m15 d15]=x48 from gV)
    have nV:=hJ (show BX 227 x48 x1.heap.size #[.bool aN,.slice aO aP aQ,.bool aR,.slice aS aT aU,.bool aV,.slice aW aX aY,.bool aZ,.slice bA bB bC,.bool bD,.slice bE bF bG,.bool bH,.slice bJ bK bL,.bool bM,.slice bN bO bP,.bool bQ,.slice bR bS bT,.bool s15,.slice A15 n15 c15,.bool t15,.slice B15 m15 d15,.bool cC,.slice cD cE cF,.bool cG,.slice cH cI cJ,.bool aE,.slice aF aG aH,.bool aI,.slice aJ aK aL] by rw [←dT.out]; exact BX.put aA.out _ _)
    have dF:=hJ (PF.new eB.out dJ.out)
    have dG:=hJ (show PF x48 aN aO aP aQ aR aS aT aU P0 Q0 by rw [←dT.out]; exact PF.sto dF.out aA.out rfl _ _)
    have cS:=hJ (PF.new eC.out dJ.out)
    have cT:=hJ (show PF x48 aV aW aX aY aZ bA bB bC P1 Q1 by rw [←dT.out]; exact PF.sto cS.out aA.out rfl _ _)
    have cU:=hJ (PF.new eD.out dJ.out)
    have cV:=hJ (show PF x48 bD bE bF bG bH bJ bK bL P2 Q2 by rw [←dT.out]; exact PF.sto cU.out aA.out rfl _ _)
    have cW:=hJ (PF.new eE.out dJ.out)
    have cX:=hJ (show PF x48 bM bN bO bP bQ bR bS bT P3 Q3 by rw [←dT.out]; exact PF.sto cW.out aA.out rfl _ _)
    have nW:=hJ (show PF x48 s15 A15 n15 c15 t15 B15 m15 d15 P4 Q4 by rw [←dT.out]; exact PF.sto nM.out aA.out rfl _ _)
    have dA:=hJ (PF.new eG.out dJ.out)
    have dB:=hJ (show PF x48 cC cD cE cF cG cH cI cJ y5_10 z5_10 by rw [←dT.out]; exact PF.sto dA.out aA.out rfl _ _)
    have cN:=hJ (PF.new eH.out dJ.out)
    have dD:=hJ (show PF x48 aE aF aG aH aI aJ aK aL y6_10 z6_10 by rw [←dT.out]; exact PF.sto cN.out aA.out rfl _ _)
    have aM:=hJ (show Below x1.heap.size x1 x48 by rw [←dT.out]; exact below_sto (bt aD.out dJ.out) cK.out _ _)
    go_wp2_with fail
    clear nN nO nP nQ nR nS nT nU gV
    go_roundw
    case rel=>exact ⟨4+1,aN,aO,aP,aQ,aR,aS,aT,aU,aV,aW,aX,aY,aZ,bA,bB,bC,bD,bE,bF,bG,bH,bJ,bK,bL,bM,bN,bO,bP,bQ,bR,bS,bT,s15,A15,n15,c15,t15,B15,m15,d15,cC,cD,cE,cF,cG,cH,cI,cJ,aE,aF,aG,aH,aI,aJ,aK,aL,P0,Q0,P1,Q1,P2,Q2,P3,Q3,P4,Q4,y5_10,z5_10,y6_10,z6_10,by omega,by go_num,nV.out,dG.out,cT.out,cV.out,cX.out,nW.out,dB.out,dD.out,hJ (⟨fun _=>⟨rfl,rfl,by first | rfl | trivial⟩,fun _=>⟨rfl,rfl,by first | rfl | trivial⟩,fun _=>⟨rfl,rfl,by first | rfl | trivial⟩,fun _=>⟨rfl,rfl,by first | rfl | trivial⟩,fun _=>⟨rfl,rfl,by first | rfl | trivial⟩,fun h=>absurd h (by decide),fun h=>absurd h (by decide)⟩),aM.out⟩
    case measure=>simp [intOf] <;> omega
   have hcz:(C4 == 0)=false:=by simp [hc]
   have HV:=hJ (show feV [0,0,0,0,C4,C5,C6]=C4 from feV_n hc)
   have HN:=hJ hc
   clear hc
   have aA:=hJ (BX.new cL.out dJ.out)
   have nX:=aA.out.frozen 16
   have nY:=aA.out.cell 16 rfl
   have nZ:=aA.out.frozen 17
   have oA:=aA.out.cell 17 rfl
   have oB:=aA.out.frozen 18
   have oC:=aA.out.cell 18 rfl
   have oD:=aA.out.frozen 19
   have oE:=aA.out.cell 19 rfl
   obtain ⟨x49,gW⟩:=nmz (World.setCell (World.setCell (World.setCell (World.setCell w47 ⟨x1.heap.size,16,none⟩ (.bool s15)) ⟨x1.heap.size,17,none⟩ (.slice A15 n15 c15)) ⟨x1.heap.size,18,none⟩ (.bool t15)) ⟨x1.heap.size,19,none⟩ (.slice B15 m15 d15))
   have gX:=hJ (show sto w47 x1.heap.size 16 [.bool s15,.slice A15 n15 c15,.bool t15,.slice B15 m15 d15]=x49 from gW)
   obtain ⟨x50,fF⟩:=nmz (x49.alloc (.cells #[.bool false,.slice none 0 0,.bool false,.slice none 0 0] 27))
   have gY:=hJ (show Below x49.heap.size x49 x50 by rw [←fF]; exact ((Below.refl _ _).alloc (Nat.le_refl _) _))
   have oF:=hJ (show BX 27 x50 x49.heap.size #[.bool false,.slice none 0 0,.bool false,.slice none 0 0] by rw [←fF]; exact (BX.at rfl))
   obtain ⟨oG,oH,oI,oJ⟩:=oF.out.c4 0 1 2 3 rfl rfl rfl rfl
   have aM:=hJ (show Below x1.heap.size x1 x49 by rw [←gX.out]; exact below_sto (bt aD.out dJ.out) cK.out _ _)
   have cO:=hJ (bt aM.out gY.out)
   have aC:=hJ (BX.new dY.out cO.out)
   have oK:=aC.out.frozen 0
   have oL:=aC.out.cell 0 rfl
   have oM:=aC.out.frozen 1
   have oN:=aC.out.cell 1 rfl
   have oO:=aC.out.frozen 2
   have oP:=aC.out.cell 2 rfl
   have oQ:=aC.out.frozen 3
   have oR:=aC.out.cell 3 rfl
   obtain ⟨x55,gZ⟩:=nmz (World.setCell (World.setCell (World.setCell (World.setCell x50 ⟨w.heap.size+5,0,none⟩ (.bool false)) ⟨w.heap.size+5,1,none⟩ (.slice none 0 0)) ⟨w.heap.size+5,2,none⟩ (.bool false)) ⟨w.heap.size+5,3,none⟩ (.slice none 0 0))
   have hA:=hJ (show sto x50 (w.heap.size+5) 0 [.bool false,.slice none 0 0,.bool false,.slice none 0 0]=x55 from gZ)
   have oS:=hJ (show BX 27 x55 (w.heap.size+5) #[.bool false,.slice none 0 0,.bool false,.slice none 0 0] by rw [←hA.out]; exact BX.put aC.out _ _)
   have cP:=hJ (show Below w.heap.size w x49 by rw [←gX.out]; exact below_sto (bt cM.out dJ.out) (Nat.le_trans (dN.out).size cK.out) _ _)
   have cQ:=hJ (show Below w.heap.size w x55 by rw [←hA.out]; exact below_sto (bt cP.out gY.out) dZ.out _ _)
   go_wp2
   clear nX nY nZ oA oB oC oD oE gW fF oG oH oI oJ oK oL oM oN oO oP oQ oR gZ
   exact bodyPost_ret (results_cell1 rfl _ _ _ _ _ _ _ rfl oS.out Tryz.underlying27 rfl F_size) rfl (by rw [HV.out,feP,feQ,if_neg HN.out,if_neg HN.out]; exact ⟨false,none,0,0,false,none,0,0,rfl,PF.zero _,cQ.out⟩)
  ·(try rw [show ((5:Nat):Int)=5 from rfl])
   obtain rfl:P0=y0_10:=(aB.out.1 (by decide)).1.symm
   obtain rfl:Q0=z0_10:=(aB.out.1 (by decide)).2.1.symm
   obtain rfl:C0=0:=(aB.out.1 (by decide)).2.2
   obtain rfl:P1=y1_10:=(aB.out.2.1 (by decide)).1.symm
   obtain rfl:Q1=z1_10:=(aB.out.2.1 (by decide)).2.1.symm
   obtain rfl:C1=0:=(aB.out.2.1 (by decide)).2.2
   obtain rfl:P2=y2_10:=(aB.out.2.2.1 (by decide)).1.symm
   obtain rfl:Q2=z2_10:=(aB.out.2.2.1 (by decide)).2.1.symm
   obtain rfl:C2=0:=(aB.out.2.2.1 (by decide)).2.2
   obtain rfl:P3=y3_10:=(aB.out.2.2.2.1 (by decide)).1.symm
   obtain rfl:Q3=z3_10:=(aB.out.2.2.2.1 (by decide)).2.1.symm
   obtain rfl:C3=0:=(aB.out.2.2.2.1 (by decide)).2.2
   obtain rfl:P4=y4_10:=(aB.out.2.2.2.2.1 (by decide)).1.symm
   obtain rfl:Q4=z4_10:=(aB.out.2.2.2.2.1 (by decide)).2.1.symm
   obtain rfl:C4=0:=(aB.out.2.2.2.2.1 (by decide)).2.2
   have hix:∀ wx,(Instr.index 229 (.agg #[.func (.func 163) #[] #[.pointer (some ⟨w.heap.size,0,none⟩),.pointer (some ⟨w.heap.size+3,0,none⟩),.pointer (some ⟨w.heap.size+2,0,none⟩)],.func (.func 164) #[] #[.pointer (some ⟨w.heap.size,0,none⟩),.pointer (some ⟨w.heap.size+4,0,none⟩),.pointer (some ⟨w.heap.size+2,0,none⟩)],.func (.func 165) #[] #[.pointer (some ⟨w.heap.size+1,0,none⟩),.pointer (some ⟨x1.heap.size,0,none⟩)],.func (.func 166) #[] #[.pointer (some ⟨w.heap.size,0,none⟩),.pointer (some ⟨w.heap.size+3,0,none⟩),.pointer (some ⟨w.heap.size+2,0,none⟩)],.func (.func 167) #[] #[.pointer (some ⟨w.heap.size,0,none⟩),.pointer (some ⟨w.heap.size+4,0,none⟩),.pointer (some ⟨w.heap.size+2,0,none⟩)],.func (.func 168) #[] #[.pointer (some ⟨w.heap.size+1,0,none⟩),.pointer (some ⟨x1.heap.size,0,none⟩)],.func (.func 169) #[] #[.pointer (some ⟨w.heap.size,0,none⟩),.pointer (some ⟨x1.heap.size,0,none⟩)]]) (.int .i64 5)).run Tryz.prog wx=.ok (.func (.func 168) #[] #[.pointer (some ⟨w.heap.size+1,0,none⟩),.pointer (some ⟨x1.heap.size,0,none⟩)]) wx:=fun wx=>gx7_5 wx
   have fC:=hJ (BX.new fT.out aD.out)
   go_wp2_with fail
   clear hix
   refine (fda6_any P3 Q3 P4 Q4 aN aO aP aQ aR aS aT aU aV aW aX aY aZ bA bB bC bD bE bF bG bH bJ bK bL bM bN bO bP bQ bR bS bT bU bV bW bX bY bZ cA cB cC cD cE cF cG cH cI cJ aE aF aG aH aI aJ aK aL (w.heap.size+1) x1.heap.size wl10 fC.out cL.out eE.out eF.out fR.out fS.out).mono ?_
   rw [eO.out.1,eO.out.2.1,eO.out.2.2]
   rintro e w56 ⟨s16,A16,n16,c16,t16,B16,m16,d16,rfl,hr16,hb⟩
   have dK:=hJ hb
   have oT:=hJ hr16
   clear hb hr16
   by_cases hc:C5=0
   ·obtain rfl:=hc
    have aA:=hJ (BX.new cL.out dK.out)
    have oU:=aA.out.frozen 20
    have oV:=aA.out.cell 20 rfl
    have oW:=aA.out.frozen 21
    have oX:=aA.out.cell 21 rfl
    have oY:=aA.out.frozen 22
    have oZ:=aA.out.cell 22 rfl
    have pA:=aA.out.frozen 23
    have pB:=aA.out.cell 23 rfl
    obtain ⟨x57,hB⟩:=nmz (World.setCell (World.setCell (World.setCell (World.setCell w56 ⟨x1.heap.size,20,none⟩ (.bool s16)) ⟨x1.heap.size,21,none⟩ (.slice A16 n16 c16)) ⟨x1.heap.size,22,none⟩ (.bool t16)) ⟨x1.heap.size,23,none⟩ (.slice B16 m16 d16))
    have dU:=hJ (show sto w56 x1.heap.size 20 [.bool s16,.slice A16 n16 c16,.bool t16,.slice B16 m16 d16]=x57 from hB)
    have pC:=hJ (show BX 227 x57 x1.heap.size #[.bool aN,.slice aO aP aQ,.bool aR,.slice aS aT aU,.bool aV,.slice aW aX aY,.bool aZ,.slice bA bB bC,.bool bD,.slice bE bF bG,.bool bH,.slice bJ bK bL,.bool bM,.slice bN bO bP,.bool bQ,.slice bR bS bT,.bool bU,.slice bV bW bX,.bool bY,.slice bZ cA cB,.bool s16,.slice A16 n16 c16,.bool t16,.slice B16 m16 d16,.bool aE,.slice aF aG aH,.bool aI,.slice aJ aK aL] by rw [←dU.out]; exact BX.put aA.out _ _)
    have dF:=hJ (PF.new eB.out dK.out)
    have dG:=hJ (show PF x57 aN aO aP aQ aR aS aT aU P0 Q0 by rw [←dU.out]; exact PF.sto dF.out aA.out rfl _ _)
    have cS:=hJ (PF.new eC.out dK.out)
    have cT:=hJ (show PF x57 aV aW aX aY aZ bA bB bC P1 Q1 by rw [←dU.out]; exact PF.sto cS.out aA.out rfl _ _)
    have cU:=hJ (PF.new eD.out dK.out)
    have cV:=hJ (show PF x57 bD bE bF bG bH bJ bK bL P2 Q2 by rw [←dU.out]; exact PF.sto cU.out aA.out rfl _ _)
    have cW:=hJ (PF.new eE.out dK.out)
    have cX:=hJ (show PF x57 bM bN bO bP bQ bR bS bT P3 Q3 by rw [←dU.out]; exact PF.sto cW.out aA.out rfl _ _)
    have cY:=hJ (PF.new eF.out dK.out)
    have cZ:=hJ (show PF x57 bU bV bW bX bY bZ cA cB P4 Q4 by rw [←dU.out]; exact PF.sto cY.out aA.out rfl _ _)
    have pD:=hJ (show PF x57 s16 A16 n16 c16 t16 B16 m16 d16 P5 Q5 by rw [←dU.out]; exact PF.sto oT.out aA.out rfl _ _)
    have cN:=hJ (PF.new eH.out dK.out)
    have dD:=hJ (show PF x57 aE aF aG aH aI aJ aK aL y6_10 z6_10 by rw [←dU.out]; exact PF.sto cN.out aA.out rfl _ _)
    have aM:=hJ (show Below x1.heap.size x1 x57 by rw [←dU.out]; exact below_sto (bt aD.out dK.out) cK.out _ _)
    go_wp2_with fail
    clear oU oV oW oX oY oZ pA pB hB
    go_roundw
    case rel=>exact ⟨5+1,aN,aO,aP,aQ,aR,aS,aT,aU,aV,aW,aX,aY,aZ,bA,bB,bC,bD,bE,bF,bG,bH,bJ,bK,bL,bM,bN,bO,bP,bQ,bR,bS,bT,bU,bV,bW,bX,bY,bZ,cA,cB,s16,A16,n16,c16,t16,B16,m16,d16,aE,aF,aG,aH,aI,aJ,aK,aL,P0,Q0,P1,Q1,P2,Q2,P3,Q3,P4,Q4,P5,Q5,y6_10,z6_10,by omega,by go_num,pC.out,dG.out,cT.out,cV.out,cX.out,cZ.out,pD.out,dD.out,hJ (⟨fun _=>⟨rfl,rfl,by first | rfl | trivial⟩,fun _=>⟨rfl,rfl,by first | rfl | trivial⟩,fun _=>⟨rfl,rfl,by first | rfl | trivial⟩,fun _=>⟨rfl,rfl,by first | rfl | trivial⟩,fun _=>⟨rfl,rfl,by first | rfl | trivial⟩,fun _=>⟨rfl,rfl,by first | rfl | trivial⟩,fun h=>absurd h (by decide)⟩),aM.out⟩
    case measure=>simp [intOf] <;> omega
   have hcz:(C5 == 0)=false:=by simp [hc]
   have HV:=hJ (show feV [0,0,0,0,0,C5,C6]=C5 from feV_n hc)
   have HN:=hJ hc
   clear hc
   have aA:=hJ (BX.new cL.out dK.out)
   have pE:=aA.out.frozen 20
   have pF:=aA.out.cell 20 rfl
   have pG:=aA.out.frozen 21
   have pH:=aA.out.cell 21 rfl
   have pI:=aA.out.frozen 22
   have pJ:=aA.out.cell 22 rfl
   have pK:=aA.out.frozen 23
   have pL:=aA.out.cell 23 rfl
   obtain ⟨x58,hC⟩:=nmz (World.setCell (World.setCell (World.setCell (World.setCell w56 ⟨x1.heap.size,20,none⟩ (.bool s16)) ⟨x1.heap.size,21,none⟩ (.slice A16 n16 c16)) ⟨x1.heap.size,22,none⟩ (.bool t16)) ⟨x1.heap.size,23,none⟩ (.slice B16 m16 d16))
   have hD:=hJ (show sto w56 x1.heap.size 20 [.bool s16,.slice A16 n16 c16,.bool t16,.slice B16 m16 d16]=x58 from hC)
   obtain ⟨x59,fG⟩:=nmz (x58.alloc (.cells #[.bool false,.slice none 0 0,.bool false,.slice none 0 0] 27))
   have hE:=hJ (show Below x58.heap.size x58 x59 by rw [←fG]; exact ((Below.refl _ _).alloc (Nat.le_refl _) _))
   have pM:=hJ (show BX 27 x59 x58.heap.size #[.bool false,.slice none 0 0,.bool false,.slice none 0 0] by rw [←fG]; exact (BX.at rfl))
   obtain ⟨pN,pO,pP,pQ⟩:=pM.out.c4 0 1 2 3 rfl rfl rfl rfl
   have aM:=hJ (show Below x1.heap.size x1 x58 by rw [←hD.out]; exact below_sto (bt aD.out dK.out) cK.out _ _)
   have cO:=hJ (bt aM.out hE.out)
   have aC:=hJ (BX.new dY.out cO.out)
   have pR:=aC.out.frozen 0
   have pS:=aC.out.cell 0 rfl
   have pT:=aC.out.frozen 1
   have pU:=aC.out.cell 1 rfl
   have pV:=aC.out.frozen 2
   have pW:=aC.out.cell 2 rfl
   have pX:=aC.out.frozen 3
   have pY:=aC.out.cell 3 rfl
   obtain ⟨x64,hF⟩:=nmz (World.setCell (World.setCell (World.setCell (World.setCell x59 ⟨w.heap.size+5,0,none⟩ (.bool false)) ⟨w.heap.size+5,1,none⟩ (.slice none 0 0)) ⟨w.heap.size+5,2,none⟩ (.bool false)) ⟨w.heap.size+5,3,none⟩ (.slice none 0 0))
   have hG:=hJ (show sto x59 (w.heap.size+5) 0 [.bool false,.slice none 0 0,.bool false,.slice none 0 0]=x64 from hF)
   have pZ:=hJ (show BX 27 x64 (w.heap.size+5) #[.bool false,.slice none 0 0,.bool false,.slice none 0 0] by rw [←hG.out]; exact BX.put aC.out _ _)
   have cP:=hJ (show Below w.heap.size w x58 by rw [←hD.out]; exact below_sto (bt cM.out dK.out) (Nat.le_trans (dN.out).size cK.out) _ _)
   have cQ:=hJ (show Below w.heap.size w x64 by rw [←hG.out]; exact below_sto (bt cP.out hE.out) dZ.out _ _)
   go_wp2
   clear pE pF pG pH pI pJ pK pL hC fG pN pO pP pQ pR pS pT pU pV pW pX pY hF
   exact bodyPost_ret (results_cell1 rfl _ _ _ _ _ _ _ rfl pZ.out Tryz.underlying27 rfl F_size) rfl (by rw [HV.out,feP,feQ,if_neg HN.out,if_neg HN.out]; exact ⟨false,none,0,0,false,none,0,0,rfl,PF.zero _,cQ.out⟩)
  ·(try rw [show ((6:Nat):Int)=6 from rfl])
   obtain rfl:P0=y0_10:=(aB.out.1 (by decide)).1.symm
   obtain rfl:Q0=z0_10:=(aB.out.1 (by decide)).2.1.symm
   obtain rfl:C0=0:=(aB.out.1 (by decide)).2.2
   obtain rfl:P1=y1_10:=(aB.out.2.1 (by decide)).1.symm
   obtain rfl:Q1=z1_10:=(aB.out.2.1 (by decide)).2.1.symm
   obtain rfl:C1=0:=(aB.out.2.1 (by decide)).2.2
   obtain rfl:P2=y2_10:=(aB.out.2.2.1 (by decide)).1.symm
   obtain rfl:Q2=z2_10:=(aB.out.2.2.1 (by decide)).2.1.symm
   obtain rfl:C2=0:=(aB.out.2.2.1 (by decide)).2.2
   obtain rfl:P3=y3_10:=(aB.out.2.2.2.1 (by decide)).1.symm
   obtain rfl:Q3=z3_10:=(aB.out.2.2.2.1 (by decide)).2.1.symm
   obtain rfl:C3=0:=(aB.out.2.2.2.1 (by decide)).2.2
   obtain rfl:P4=y4_10:=(aB.out.2.2.2.2.1 (by decide)).1.symm
   obtain rfl:Q4=z4_10:=(aB.out.2.2.2.2.1 (by decide)).2.1.symm
   obtain rfl:C4=0:=(aB.out.2.2.2.2.1 (by decide)).2.2
   obtain rfl:P5=y5_10:=(aB.out.2.2.2.2.2.1 (by decide)).1.symm
   obtain rfl:Q5=z5_10:=(aB.out.2.2.2.2.2.1 (by decide)).2.1.symm
   obtain rfl:C5=0:=(aB.out.2.2.2.2.2.1 (by decide)).2.2
   have hix:∀ wx,(Instr.index 229 (.agg #[.func (.func 163) #[] #[.pointer (some ⟨w.heap.size,0,none⟩),.pointer (some ⟨w.heap.size+3,0,none⟩),.pointer (some ⟨w.heap.size+2,0,none⟩)],.func (.func 164) #[] #[.pointer (some ⟨w.heap.size,0,none⟩),.pointer (some ⟨w.heap.size+4,0,none⟩),.pointer (some ⟨w.heap.size+2,0,none⟩)],.func (.func 165) #[] #[.pointer (some ⟨w.heap.size+1,0,none⟩),.pointer (some ⟨x1.heap.size,0,none⟩)],.func (.func 166) #[] #[.pointer (some ⟨w.heap.size,0,none⟩),.pointer (some ⟨w.heap.size+3,0,none⟩),.pointer (some ⟨w.heap.size+2,0,none⟩)],.func (.func 167) #[] #[.pointer (some ⟨w.heap.size,0,none⟩),.pointer (some ⟨w.heap.size+4,0,none⟩),.pointer (some ⟨w.heap.size+2,0,none⟩)],.func (.func 168) #[] #[.pointer (some ⟨w.heap.size+1,0,none⟩),.pointer (some ⟨x1.heap.size,0,none⟩)],.func (.func 169) #[] #[.pointer (some ⟨w.heap.size,0,none⟩),.pointer (some ⟨x1.heap.size,0,none⟩)]]) (.int .i64 6)).run Tryz.prog wx=.ok (.func (.func 169) #[] #[.pointer (some ⟨w.heap.size,0,none⟩),.pointer (some ⟨x1.heap.size,0,none⟩)]) wx:=fun wx=>gx7_6 wx
   have dO:=hJ (BX.new eP.out aD.out)
   go_wp2_with fail
   clear hix
   refine (fda7_any P2 Q2 P5 Q5 aN aO aP aQ aR aS aT aU aV aW aX aY aZ bA bB bC bD bE bF bG bH bJ bK bL bM bN bO bP bQ bR bS bT bU bV bW bX bY bZ cA cB cC cD cE cF cG cH cI cJ aE aF aG aH aI aJ aK aL w.heap.size x1.heap.size wl10 dO.out cL.out eD.out eG.out hT.out hU.out).mono ?_
   rw [eV.out.1,eV.out.2.1,eV.out.2.2]
   rintro e w65 ⟨s17,A17,n17,c17,t17,B17,m17,d17,rfl,hr17,hb⟩
   have dL:=hJ hb
   have qA:=hJ hr17
   clear hb hr17
   by_cases hc:C6=0
   ·obtain rfl:=hc
    have aA:=hJ (BX.new cL.out dL.out)
    have qB:=aA.out.frozen 24
    have qC:=aA.out.cell 24 rfl
    have qD:=aA.out.frozen 25
    have qE:=aA.out.cell 25 rfl
    have qF:=aA.out.frozen 26
    have qG:=aA.out.cell 26 rfl
    have qH:=aA.out.frozen 27
    have qI:=aA.out.cell 27 rfl
    obtain ⟨x66,hH⟩:=nmz (World.setCell (World.setCell (World.setCell (World.setCell w65 ⟨x1.heap.size,24,none⟩ (.bool s17)) ⟨x1.heap.size,25,none⟩ (.slice A17 n17 c17)) ⟨x1.heap.size,26,none⟩ (.bool t17)) ⟨x1.heap.size,27,none⟩ (.slice B17 m17 d17))
    have dW:=hJ (show sto w65 x1.heap.size 24 [.bool s17,.slice A17 n17 c17,.bool t17,.slice B17 m17 d17]=x66 from hH)
    have qJ:=hJ (show BX 227 x66 x1.heap.size #[.bool aN,.slice aO aP aQ,.bool aR,.slice aS aT aU,.bool aV,.slice aW aX aY,.bool aZ,.slice bA bB bC,.bool bD,.slice bE bF bG,.bool bH,.slice bJ bK bL,.bool bM,.slice bN bO bP,.bool bQ,.slice bR bS bT,.bool bU,.slice bV bW bX,.bool bY,.slice bZ cA cB,.bool cC,.slice cD cE cF,.bool cG,.slice cH cI cJ,.bool s17,.slice A17 n17 c17,.bool t17,.slice B17 m17 d17] by rw [←dW.out]; exact BX.put aA.out _ _)
    have dF:=hJ (PF.new eB.out dL.out)
    have dG:=hJ (show PF x66 aN aO aP aQ aR aS aT aU P0 Q0 by rw [←dW.out]; exact PF.sto dF.out aA.out rfl _ _)
    have cS:=hJ (PF.new eC.out dL.out)
    have cT:=hJ (show PF x66 aV aW aX aY aZ bA bB bC P1 Q1 by rw [←dW.out]; exact PF.sto cS.out aA.out rfl _ _)
    have cU:=hJ (PF.new eD.out dL.out)
    have cV:=hJ (show PF x66 bD bE bF bG bH bJ bK bL P2 Q2 by rw [←dW.out]; exact PF.sto cU.out aA.out rfl _ _)
    have cW:=hJ (PF.new eE.out dL.out)
    have cX:=hJ (show PF x66 bM bN bO bP bQ bR bS bT P3 Q3 by rw [←dW.out]; exact PF.sto cW.out aA.out rfl _ _)
    have cY:=hJ (PF.new eF.out dL.out)
    have cZ:=hJ (show PF x66 bU bV bW bX bY bZ cA cB P4 Q4 by rw [←dW.out]; exact PF.sto cY.out aA.out rfl _ _)
    have dA:=hJ (PF.new eG.out dL.out)
    have dB:=hJ (show PF x66 cC cD cE cF cG cH cI cJ P5 Q5 by rw [←dW.out]; exact PF.sto dA.out aA.out rfl _ _)
    have qK:=hJ (show PF x66 s17 A17 n17 c17 t17 B17 m17 d17 P6 Q6 by rw [←dW.out]; exact PF.sto qA.out aA.out rfl _ _)
    have aM:=hJ (show Below x1.heap.size x1 x66 by rw [←dW.out]; exact below_sto (bt aD.out dL.out) cK.out _ _)
    go_wp2_with fail
    clear qB qC qD qE qF qG qH qI hH
    go_roundw
    case rel=>exact ⟨6+1,aN,aO,aP,aQ,aR,aS,aT,aU,aV,aW,aX,aY,aZ,bA,bB,bC,bD,bE,bF,bG,bH,bJ,bK,bL,bM,bN,bO,bP,bQ,bR,bS,bT,bU,bV,bW,bX,bY,bZ,cA,cB,cC,cD,cE,cF,cG,cH,cI,cJ,s17,A17,n17,c17,t17,B17,m17,d17,P0,Q0,P1,Q1,P2,Q2,P3,Q3,P4,Q4,P5,Q5,P6,Q6,by omega,by go_num,qJ.out,dG.out,cT.out,cV.out,cX.out,cZ.out,dB.out,qK.out,hJ (⟨fun _=>⟨rfl,rfl,by first | rfl | trivial⟩,fun _=>⟨rfl,rfl,by first | rfl | trivial⟩,fun _=>⟨rfl,rfl,by first | rfl | trivial⟩,fun _=>⟨rfl,rfl,by first | rfl | trivial⟩,fun _=>⟨rfl,rfl,by first | rfl | trivial⟩,fun _=>⟨rfl,rfl,by first | rfl | trivial⟩,fun _=>⟨rfl,rfl,by first | rfl | trivial⟩⟩),aM.out⟩
    case measure=>simp [intOf] <;> omega
   have hcz:(C6 == 0)=false:=by simp [hc]
   have HV:=hJ (show feV [0,0,0,0,0,0,C6]=C6 from feV_n hc)
   have HN:=hJ hc
   clear hc
   have aA:=hJ (BX.new cL.out dL.out)
   have qL:=aA.out.frozen 24
   have qM:=aA.out.cell 24 rfl
   have qN:=aA.out.frozen 25
   have qO:=aA.out.cell 25 rfl
   have qP:=aA.out.frozen 26
   have qQ:=aA.out.cell 26 rfl
   have qR:=aA.out.frozen 27
   have qS:=aA.out.cell 27 rfl
   obtain ⟨x67,hI⟩:=nmz (World.setCell (World.setCell (World.setCell (World.setCell w65 ⟨x1.heap.size,24,none⟩ (.bool s17)) ⟨x1.heap.size,25,none⟩ (.slice A17 n17 c17)) ⟨x1.heap.size,26,none⟩ (.bool t17)) ⟨x1.heap.size,27,none⟩ (.slice B17 m17 d17))
   have hK:=hJ (show sto w65 x1.heap.size 24 [.bool s17,.slice A17 n17 c17,.bool t17,.slice B17 m17 d17]=x67 from hI)
   obtain ⟨x68,fH⟩:=nmz (x67.alloc (.cells #[.bool false,.slice none 0 0,.bool false,.slice none 0 0] 27))
   have hL:=hJ (show Below x67.heap.size x67 x68 by rw [←fH]; exact ((Below.refl _ _).alloc (Nat.le_refl _) _))
   have qT:=hJ (show BX 27 x68 x67.heap.size #[.bool false,.slice none 0 0,.bool false,.slice none 0 0] by rw [←fH]; exact (BX.at rfl))
   obtain ⟨qU,qV,qW,qX⟩:=qT.out.c4 0 1 2 3 rfl rfl rfl rfl
   have aM:=hJ (show Below x1.heap.size x1 x67 by rw [←hK.out]; exact below_sto (bt aD.out dL.out) cK.out _ _)
   have cO:=hJ (bt aM.out hL.out)
   have aC:=hJ (BX.new dY.out cO.out)
   have qY:=aC.out.frozen 0
   have qZ:=aC.out.cell 0 rfl
   have rA:=aC.out.frozen 1
   have rB:=aC.out.cell 1 rfl
   have rC:=aC.out.frozen 2
   have rD:=aC.out.cell 2 rfl
   have rE:=aC.out.frozen 3
   have rF:=aC.out.cell 3 rfl
   obtain ⟨x73,hM⟩:=nmz (World.setCell (World.setCell (World.setCell (World.setCell x68 ⟨w.heap.size+5,0,none⟩ (.bool false)) ⟨w.heap.size+5,1,none⟩ (.slice none 0 0)) ⟨w.heap.size+5,2,none⟩ (.bool false)) ⟨w.heap.size+5,3,none⟩ (.slice none 0 0))
   have hN:=hJ (show sto x68 (w.heap.size+5) 0 [.bool false,.slice none 0 0,.bool false,.slice none 0 0]=x73 from hM)
   have rG:=hJ (show BX 27 x73 (w.heap.size+5) #[.bool false,.slice none 0 0,.bool false,.slice none 0 0] by rw [←hN.out]; exact BX.put aC.out _ _)
   have cP:=hJ (show Below w.heap.size w x67 by rw [←hK.out]; exact below_sto (bt cM.out dL.out) (Nat.le_trans (dN.out).size cK.out) _ _)
   have cQ:=hJ (show Below w.heap.size w x73 by rw [←hN.out]; exact below_sto (bt cP.out hL.out) dZ.out _ _)
   go_wp2
   clear qL qM qN qO qP qQ qR qS hI fH qU qV qW qX qY qZ rA rB rC rD rE rF hM
   exact bodyPost_ret (results_cell1 rfl _ _ _ _ _ _ _ rfl rG.out Tryz.underlying27 rfl F_size) rfl (by rw [HV.out,feP,feQ,if_neg HN.out,if_neg HN.out]; exact ⟨false,none,0,0,false,none,0,0,rfl,PF.zero _,cQ.out⟩)
  ·(try rw [show ((7:Nat):Int)=7 from rfl])
   obtain rfl:P0=y0_10:=(aB.out.1 (by decide)).1.symm
   obtain rfl:Q0=z0_10:=(aB.out.1 (by decide)).2.1.symm
   obtain rfl:C0=0:=(aB.out.1 (by decide)).2.2
   obtain rfl:P1=y1_10:=(aB.out.2.1 (by decide)).1.symm
   obtain rfl:Q1=z1_10:=(aB.out.2.1 (by decide)).2.1.symm
   obtain rfl:C1=0:=(aB.out.2.1 (by decide)).2.2
   obtain rfl:P2=y2_10:=(aB.out.2.2.1 (by decide)).1.symm
   obtain rfl:Q2=z2_10:=(aB.out.2.2.1 (by decide)).2.1.symm
   obtain rfl:C2=0:=(aB.out.2.2.1 (by decide)).2.2
   obtain rfl:P3=y3_10:=(aB.out.2.2.2.1 (by decide)).1.symm
   obtain rfl:Q3=z3_10:=(aB.out.2.2.2.1 (by decide)).2.1.symm
   obtain rfl:C3=0:=(aB.out.2.2.2.1 (by decide)).2.2
   obtain rfl:P4=y4_10:=(aB.out.2.2.2.2.1 (by decide)).1.symm
   obtain rfl:Q4=z4_10:=(aB.out.2.2.2.2.1 (by decide)).2.1.symm
   obtain rfl:C4=0:=(aB.out.2.2.2.2.1 (by decide)).2.2
   obtain rfl:P5=y5_10:=(aB.out.2.2.2.2.2.1 (by decide)).1.symm
   obtain rfl:Q5=z5_10:=(aB.out.2.2.2.2.2.1 (by decide)).2.1.symm
   obtain rfl:C5=0:=(aB.out.2.2.2.2.2.1 (by decide)).2.2
   obtain rfl:P6=y6_10:=(aB.out.2.2.2.2.2.2 (by decide)).1.symm
   obtain rfl:Q6=z6_10:=(aB.out.2.2.2.2.2.2 (by decide)).2.1.symm
   obtain rfl:C6=0:=(aB.out.2.2.2.2.2.2 (by decide)).2.2
   obtain ⟨rH,rI,rJ,rK⟩:=cL.out.c4 24 25 26 27 rfl rfl rfl rfl
   have dM:=hJ (BX.new dY.out aD.out)
   have rL:=dM.out.frozen 0
   have rM:=dM.out.cell 0 rfl
   have rN:=dM.out.frozen 1
   have rO:=dM.out.cell 1 rfl
   have rP:=dM.out.frozen 2
   have rQ:=dM.out.cell 2 rfl
   have rR:=dM.out.frozen 3
   have rS:=dM.out.cell 3 rfl
   obtain ⟨x78,hO⟩:=nmz (World.setCell (World.setCell (World.setCell (World.setCell wl10 ⟨w.heap.size+5,0,none⟩ (.bool aE)) ⟨w.heap.size+5,1,none⟩ (.slice aF aG aH)) ⟨w.heap.size+5,2,none⟩ (.bool aI)) ⟨w.heap.size+5,3,none⟩ (.slice aJ aK aL))
   have fI:=hJ (show sto wl10 (w.heap.size+5) 0 [.bool aE,.slice aF aG aH,.bool aI,.slice aJ aK aL]=x78 from hO)
   have rT:=hJ (show BX 27 x78 (w.heap.size+5) #[.bool aE,.slice aF aG aH,.bool aI,.slice aJ aK aL] by rw [←fI.out]; exact BX.put dM.out _ _)
   have rU:=hJ (show Below w.heap.size w x78 by rw [←fI.out]; exact below_sto cM.out dZ.out _ _)
   have cN:=hJ (show PF x78 aE aF aG aH aI aJ aK aL P6 Q6 by rw [←fI.out]; exact PF.sto eH.out dM.out rfl _ _)
   go_wp2
   clear rH rI rJ rK rL rM rN rO rP rQ rR rS hO
   exact bodyPost_ret (results_cell1 rfl _ _ _ _ _ _ _ rfl rT.out Tryz.underlying27 rfl F_size) rfl (by rw [show feV [0,0,0,0,0,0,0]=0 from rfl,feP,feQ,if_pos rfl,if_pos rfl]; exact ⟨aE,aF,aG,aH,aI,aJ,aK,aL,rfl,cN.out,rU.out⟩)
theorem coords_any (s0:Bool) (A0:Option Addr) (n0 c0:Nat) (t0:Bool) (B0:Option Addr) (m0 d0:Nat) (s1:Bool) (A1:Option Addr) (n1 c1:Nat) (t1:Bool) (B1:Option Addr) (m1 d1:Nat) (w:World) :
  Calls Tryz.prog 101 #[.agg #[.bool s0,.slice A0 n0 c0,.bool t0,.slice B0 m0 d0,.bool s1,.slice A1 n1 c1,.bool t1,.slice B1 m1 d1]] w fun e w'=>e=.returned (.agg #[.bool s0,.slice A0 n0 c0,.bool t0,.slice B0 m0 d0,.bool s1,.slice A1 n1 c1,.bool t1,.slice B1 m1 d1])∧Below w.heap.size w w':=by
 obtain ⟨x1,aB⟩:=nmz ((w.alloc (.cells #[.bool s0,.slice A0 n0 c0,.bool t0,.slice B0 m0 d0,.bool s1,.slice A1 n1 c1,.bool t1,.slice B1 m1 d1] 29)).alloc (.cells #[.bool false,.slice none 0 0,.bool false,.slice none 0 0,.bool false,.slice none 0 0,.bool false,.slice none 0 0] 134))
 have aF:=hJ (show Below w.heap.size w x1 by rw [←aB]; exact (((Below.refl _ _).alloc (Nat.le_refl _) _).alloc (by simp only [World.size_alloc]; omega) _))
 have aC:=hJ (show BX 29 x1 w.heap.size #[.bool s0,.slice A0 n0 c0,.bool t0,.slice B0 m0 d0,.bool s1,.slice A1 n1 c1,.bool t1,.slice B1 m1 d1] by rw [←aB]; exact ((BX.at rfl).alloc _))
 have aA:=hJ (show BX 134 x1 (w.heap.size+1) #[.bool false,.slice none 0 0,.bool false,.slice none 0 0,.bool false,.slice none 0 0,.bool false,.slice none 0 0] by rw [←aB]; exact (BX.at (by simp only [World.size_alloc])))
 have aG:=hJ (show w.heap.size≤w.heap.size+1 by omega)
 obtain ⟨aH,aI,aJ,aK⟩:=aC.out.c4 0 1 2 3 rfl rfl rfl rfl
 obtain ⟨aL,aM,aN,aO⟩:=aC.out.c4 4 5 6 7 rfl rfl rfl rfl
 have aP:=aA.out.frozen 0
 have aQ:=aA.out.cell 0 rfl
 have aR:=aA.out.frozen 1
 have aS:=aA.out.cell 1 rfl
 have aT:=aA.out.frozen 2
 have aU:=aA.out.cell 2 rfl
 have aV:=aA.out.frozen 3
 have aW:=aA.out.cell 3 rfl
 have aX:=aA.out.frozen 4
 have aY:=aA.out.cell 4 rfl
 have aZ:=aA.out.frozen 5
 have bA:=aA.out.cell 5 rfl
 have bB:=aA.out.frozen 6
 have bC:=aA.out.cell 6 rfl
 have bD:=aA.out.frozen 7
 have bE:=aA.out.cell 7 rfl
 obtain ⟨x10,aD⟩:=nmz (World.setCell (World.setCell (World.setCell (World.setCell (World.setCell (World.setCell (World.setCell (World.setCell x1 ⟨w.heap.size+1,0,none⟩ (.bool s0)) ⟨w.heap.size+1,1,none⟩ (.slice A0 n0 c0)) ⟨w.heap.size+1,2,none⟩ (.bool t0)) ⟨w.heap.size+1,3,none⟩ (.slice B0 m0 d0)) ⟨w.heap.size+1,4,none⟩ (.bool s1)) ⟨w.heap.size+1,5,none⟩ (.slice A1 n1 c1)) ⟨w.heap.size+1,6,none⟩ (.bool t1)) ⟨w.heap.size+1,7,none⟩ (.slice B1 m1 d1))
 have aE:=hJ (show sto x1 (w.heap.size+1) 0 [.bool s0,.slice A0 n0 c0,.bool t0,.slice B0 m0 d0,.bool s1,.slice A1 n1 c1,.bool t1,.slice B1 m1 d1]=x10 from aD)
 have bF:=hJ (show BX 134 x10 (w.heap.size+1) #[.bool s0,.slice A0 n0 c0,.bool t0,.slice B0 m0 d0,.bool s1,.slice A1 n1 c1,.bool t1,.slice B1 m1 d1] by rw [←aE.out]; exact BX.put aA.out _ _)
 have bG:=hJ (show Below w.heap.size w x10 by rw [←aE.out]; exact below_sto aF.out aG.out _ _)
 go_enter Tryz.func101,Tryz.ntmps101
 go_wp2
 clear aB aH aI aJ aK aL aM aN aO aP aQ aR aS aT aU aV aW aX aY aZ bA bB bC bD bE aD
 exact bodyPost_ret (results_cell_row rfl _ _ _ _ _ _ _ rfl bF.out Tryz.underlying134 rfl F2_size) rfl ⟨rfl,bG.out⟩
theorem area_any (p0 q0 p1 q1 p2 q2 p3 q3 p4 q4 p5 q5 P0 Q0 C0 P1 Q1 C1 P2 Q2 C2 P3 Q3 C3 P4 Q4 C4 P5 Q5 C5 P6 Q6 C6:Int) (s0:Bool) (A0:Option Addr) (n0 c0:Nat) (t0:Bool) (B0:Option Addr) (m0 d0:Nat) (s1:Bool) (A1:Option Addr) (n1 c1:Nat) (t1:Bool) (B1:Option Addr) (m1 d1:Nat) (s2:Bool) (A2:Option Addr) (n2 c2:Nat) (t2:Bool) (B2:Option Addr) (m2 d2:Nat) (s3:Bool) (A3:Option Addr) (n3 c3:Nat) (t3:Bool) (B3:Option Addr) (m3 d3:Nat) (s4:Bool) (A4:Option Addr) (n4 c4:Nat) (t4:Bool) (B4:Option Addr) (m4 d4:Nat) (s5:Bool) (A5:Option Addr) (n5 c5:Nat) (t5:Bool) (B5:Option Addr) (m5 d5:Nat) (w:World) (h0:PF w s0 A0 n0 c0 t0 B0 m0 d0 p0 q0) (h1:PF w s1 A1 n1 c1 t1 B1 m1 d1 p1 q1) (h2:PF w s2 A2 n2 c2 t2 B2 m2 d2 p2 q2) (h3:PF w s3 A3 n3 c3 t3 B3 m3 d3 p3 q3) (h4:PF w s4 A4 n4 c4 t4 B4 m4 d4 p4 q4) (h5:PF w s5 A5 n5 c5 t5 B5 m5 d5 p5 q5) (f0:Fr p0 q0) (f1:Fr p1 q1) (f2:Fr p2 q2) (f3:Fr p3 q3) (f4:Fr p4 q4) (f5:Fr p5 q5) (e0:adP p2 q2 (-p0) q0=P0∧adQ p2 q2 (-p0) q0=Q0∧adC p2 q2 (-p0) q0=C0) (e1:adP p5 q5 (-p1) q1=P1∧adQ p5 q5 (-p1) q1=Q1∧adC p5 q5 (-p1) q1=C1) (e2:muP P0 Q0 P1 Q1=P2∧muQ P0 Q0 P1 Q1=Q2∧muC P0 Q0 P1 Q1=C2) (e3:adP p3 q3 (-p1) q1=P3∧adQ p3 q3 (-p1) q1=Q3∧adC p3 q3 (-p1) q1=C3) (e4:adP p4 q4 (-p0) q0=P4∧adQ p4 q4 (-p0) q0=Q4∧adC p4 q4 (-p0) q0=C4) (e5:muP P3 Q3 P4 Q4=P5∧muQ P3 Q3 P4 Q4=Q5∧muC P3 Q3 P4 Q4=C5) (e6:adP P2 Q2 (-P5) Q5=P6∧adQ P2 Q2 (-P5) Q5=Q6∧adC P2 Q2 (-P5) Q5=C6) :
  Calls Tryz.prog 32 #[.agg #[.bool s0,.slice A0 n0 c0,.bool t0,.slice B0 m0 d0,.bool s1,.slice A1 n1 c1,.bool t1,.slice B1 m1 d1],.agg #[.bool s2,.slice A2 n2 c2,.bool t2,.slice B2 m2 d2,.bool s3,.slice A3 n3 c3,.bool t3,.slice B3 m3 d3],.agg #[.bool s4,.slice A4 n4 c4,.bool t4,.slice B4 m4 d4,.bool s5,.slice A5 n5 c5,.bool t5,.slice B5 m5 d5]] w (RetFE (feP (feV [C0,C1,C2,C3,C4,C5,C6]) P6) (feQ (feV [C0,C1,C2,C3,C4,C5,C6]) Q6) (feV [C0,C1,C2,C3,C4,C5,C6]) w):=by
 have aQ:=hJ h0
 have aR:=hJ h1
 have aS:=hJ h2
 have aT:=hJ h3
 have aU:=hJ h4
 have aV:=hJ h5
 clear h0 h1 h2 h3 h4 h5
 obtain ⟨x1,aL⟩:=nmz ((((w.alloc (.cells #[.bool s0,.slice A0 n0 c0,.bool t0,.slice B0 m0 d0,.bool s1,.slice A1 n1 c1,.bool t1,.slice B1 m1 d1] 29)).alloc (.cells #[.bool s2,.slice A2 n2 c2,.bool t2,.slice B2 m2 d2,.bool s3,.slice A3 n3 c3,.bool t3,.slice B3 m3 d3] 29)).alloc (.cells #[.bool s4,.slice A4 n4 c4,.bool t4,.slice B4 m4 d4,.bool s5,.slice A5 n5 c5,.bool t5,.slice B5 m5 d5] 29)).alloc (.cells #[.bool false,.slice none 0 0,.bool false,.slice none 0 0] 27))
 have aB:=hJ (show Below w.heap.size w x1 by rw [←aL]; exact (((((Below.refl _ _).alloc (Nat.le_refl _) _).alloc (by simp only [World.size_alloc]; omega) _).alloc (by simp only [World.size_alloc]; omega) _).alloc (by simp only [World.size_alloc]; omega) _))
 have aC:=hJ (show BX 29 x1 w.heap.size #[.bool s0,.slice A0 n0 c0,.bool t0,.slice B0 m0 d0,.bool s1,.slice A1 n1 c1,.bool t1,.slice B1 m1 d1] by rw [←aL]; exact ((((BX.at rfl).alloc _).alloc _).alloc _))
 have aD:=hJ (show BX 29 x1 (w.heap.size+1) #[.bool s2,.slice A2 n2 c2,.bool t2,.slice B2 m2 d2,.bool s3,.slice A3 n3 c3,.bool t3,.slice B3 m3 d3] by rw [←aL]; exact (((BX.at (by simp only [World.size_alloc])).alloc _).alloc _))
 have aE:=hJ (show BX 29 x1 (w.heap.size+2) #[.bool s4,.slice A4 n4 c4,.bool t4,.slice B4 m4 d4,.bool s5,.slice A5 n5 c5,.bool t5,.slice B5 m5 d5] by rw [←aL]; exact ((BX.at (by simp only [World.size_alloc])).alloc _))
 have aW:=hJ (show BX 27 x1 (w.heap.size+3) #[.bool false,.slice none 0 0,.bool false,.slice none 0 0] by rw [←aL]; exact (BX.at (by simp only [World.size_alloc])))
 have aN:=hJ (show w.heap.size≤w.heap.size+3 by omega)
 have aM:Hid (∀ w',Below x1.heap.size x1 w'→(fun w':World=>w'.cell? ⟨w.heap.size,0,none⟩=some (.bool s0)∧w'.cell? ⟨w.heap.size,1,none⟩=some (.slice A0 n0 c0)∧w'.cell? ⟨w.heap.size,2,none⟩=some (.bool t0)∧w'.cell? ⟨w.heap.size,3,none⟩=some (.slice B0 m0 d0)∧w'.cell? ⟨w.heap.size,4,none⟩=some (.bool s1)∧w'.cell? ⟨w.heap.size,5,none⟩=some (.slice A1 n1 c1)∧w'.cell? ⟨w.heap.size,6,none⟩=some (.bool t1)∧w'.cell? ⟨w.heap.size,7,none⟩=some (.slice B1 m1 d1)∧w'.cell? ⟨w.heap.size+1,0,none⟩=some (.bool s2)∧w'.cell? ⟨w.heap.size+1,1,none⟩=some (.slice A2 n2 c2)∧w'.cell? ⟨w.heap.size+1,2,none⟩=some (.bool t2)∧w'.cell? ⟨w.heap.size+1,3,none⟩=some (.slice B2 m2 d2)∧w'.cell? ⟨w.heap.size+1,4,none⟩=some (.bool s3)∧w'.cell? ⟨w.heap.size+1,5,none⟩=some (.slice A3 n3 c3)∧w'.cell? ⟨w.heap.size+1,6,none⟩=some (.bool t3)∧w'.cell? ⟨w.heap.size+1,7,none⟩=some (.slice B3 m3 d3)∧w'.cell? ⟨w.heap.size+2,0,none⟩=some (.bool s4)∧w'.cell? ⟨w.heap.size+2,1,none⟩=some (.slice A4 n4 c4)∧w'.cell? ⟨w.heap.size+2,2,none⟩=some (.bool t4)∧w'.cell? ⟨w.heap.size+2,3,none⟩=some (.slice B4 m4 d4)∧w'.cell? ⟨w.heap.size+2,4,none⟩=some (.bool s5)∧w'.cell? ⟨w.heap.size+2,5,none⟩=some (.slice A5 n5 c5)∧w'.cell? ⟨w.heap.size+2,6,none⟩=some (.bool t5)∧w'.cell? ⟨w.heap.size+2,7,none⟩=some (.slice B5 m5 d5)∧Below w.heap.size w w') w'):=hJ (fun w' hb=>⟨(BX.new aC.out hb).cell 0 rfl,(BX.new aC.out hb).cell 1 rfl,(BX.new aC.out hb).cell 2 rfl,(BX.new aC.out hb).cell 3 rfl,(BX.new aC.out hb).cell 4 rfl,(BX.new aC.out hb).cell 5 rfl,(BX.new aC.out hb).cell 6 rfl,(BX.new aC.out hb).cell 7 rfl,(BX.new aD.out hb).cell 0 rfl,(BX.new aD.out hb).cell 1 rfl,(BX.new aD.out hb).cell 2 rfl,(BX.new aD.out hb).cell 3 rfl,(BX.new aD.out hb).cell 4 rfl,(BX.new aD.out hb).cell 5 rfl,(BX.new aD.out hb).cell 6 rfl,(BX.new aD.out hb).cell 7 rfl,(BX.new aE.out hb).cell 0 rfl,(BX.new aE.out hb).cell 1 rfl,(BX.new aE.out hb).cell 2 rfl,(BX.new aE.out hb).cell 3 rfl,(BX.new aE.out hb).cell 4 rfl,(BX.new aE.out hb).cell 5 rfl,(BX.new aE.out hb).cell 6 rfl,(BX.new aE.out hb).cell 7 rfl,(bt aB.out hb)⟩)
 have aX:=hJ (PF.new aQ.out aB.out)
 have aY:=hJ (PF.new aR.out aB.out)
 have aZ:=hJ (PF.new aS.out aB.out)
 have bA:=hJ (PF.new aT.out aB.out)
 have bB:=hJ (PF.new aU.out aB.out)
 have bC:=hJ (PF.new aV.out aB.out)
 go_enter Tryz.func32,Tryz.ntmps32
 go_wp2_with fail
 clear aL
 obtain ⟨v2,hv2⟩:=nmz (World.drew x1)
 have bD:=hJ (show Below x1.heap.size x1 v2 by rw [←hv2]; exact (Below.refl _ _).drew)
 refine whd aM hv2 (fun hHeld=>?_)
 clear hv2
 refine tq 0 ?_
 refine tq 2 ?_
 refine tq 4 ?_
 try simp only [PT]
 refine ryy [1] ?_
 refine .cons rfl (fun K hK=>?_) .nil
 go_simp
 go_at_call 101
 refine (coords_any s0 A0 n0 c0 t0 B0 m0 d0 s1 A1 n1 c1 t1 B1 m1 d1 v2).mono ?_
 rintro e v3 ⟨rfl,hb⟩
 have bE:=hJ hb
 clear hb
 go_wp2_with fail
 have aO:=hJ (bt bD.out bE.out)
 clear hHeld
 refine hK.out _ _ (aM.out _ aO.out) (fun hHeld=>?_)
 clear hK K
 try simp only [PT]
 refine ryy [3] ?_
 refine .cons rfl (fun K hK=>?_) .nil
 go_simp
 go_at_call 101
 refine (coords_any s2 A2 n2 c2 t2 B2 m2 d2 s3 A3 n3 c3 t3 B3 m3 d3 v3).mono ?_
 rintro e v4 ⟨rfl,hb⟩
 have bF:=hJ hb
 clear hb
 go_wp2_with fail
 have aP:=hJ (bt aO.out bF.out)
 clear hHeld
 refine hK.out _ _ (aM.out _ aP.out) (fun hHeld=>?_)
 clear hK K
 try simp only [PT]
 refine ryy [5] ?_
 refine .cons rfl (fun K hK=>?_) .nil
 go_simp
 go_at_call 101
 refine (coords_any s4 A4 n4 c4 t4 B4 m4 d4 s5 A5 n5 c5 t5 B5 m5 d5 v4).mono ?_
 rintro e v5 ⟨rfl,hb⟩
 have bG:=hJ hb
 clear hb
 go_wp2_with fail
 have aF:=hJ (bt aP.out bG.out)
 clear hHeld
 refine hK.out _ _ (aM.out _ aF.out) (fun hHeld=>?_)
 clear hK K
 try simp only [PT]
 refine ryy [6] ?_
 refine .cons rfl (fun K hK=>?_) .nil
 go_simp
 go_at_call 98
 refine (fdarea_any p0 q0 p1 q1 p2 q2 p3 q3 p4 q4 p5 q5 P0 Q0 C0 P1 Q1 C1 P2 Q2 C2 P3 Q3 C3 P4 Q4 C4 P5 Q5 C5 P6 Q6 C6 s0 A0 n0 c0 t0 B0 m0 d0 s1 A1 n1 c1 t1 B1 m1 d1 s2 A2 n2 c2 t2 B2 m2 d2 s3 A3 n3 c3 t3 B3 m3 d3 s4 A4 n4 c4 t4 B4 m4 d4 s5 A5 n5 c5 t5 B5 m5 d5 v5 (PF.new aX.out aF.out) (PF.new aY.out aF.out) (PF.new aZ.out aF.out) (PF.new bA.out aF.out) (PF.new bB.out aF.out) (PF.new bC.out aF.out) f0 f1 f2 f3 f4 f5 e0 e1 e2 e3 e4 e5 e6).mono ?_
 rintro e v6 ⟨s11,A11,n11,c11,t11,B11,m11,d11,rfl,hr11,hb⟩
 have bH:=hJ hb
 have bJ:=hJ hr11
 clear hb hr11
 go_wp2_with fail
 have aJ:=hJ (bt aF.out bH.out)
 clear hHeld
 refine hK.out _ _ (aM.out _ aJ.out) (fun hHeld=>?_)
 clear hK K
 refine tq 7 ?_
 refine tq 8 ?_
 try simp only [PT]
 refine ryy [9] ?_
 refine .cons rfl (fun K hK=>?_) .nil
 have aA:=hJ (BX.new aW.out aJ.out)
 have z7_0:=aA.out.cell 0 rfl
 have y7_0:=aA.out.frozen 0
 have z7_1:=aA.out.cell 1 rfl
 have y7_1:=aA.out.frozen 1
 have z7_2:=aA.out.cell 2 rfl
 have y7_2:=aA.out.frozen 2
 have z7_3:=aA.out.cell 3 rfl
 have y7_3:=aA.out.frozen 3
 have z7:=aA.out.lt
 go_simp
 obtain ⟨v7,hV⟩:=nmz (World.setCell (World.setCell (World.setCell (World.setCell v6 ⟨w.heap.size+3,0,none⟩ (.bool s11)) ⟨w.heap.size+3,1,none⟩ (.slice A11 n11 c11)) ⟨w.heap.size+3,2,none⟩ (.bool t11)) ⟨w.heap.size+3,3,none⟩ (.slice B11 m11 d11))
 rw [hV]
 have aK:=hJ (show sto v6 (w.heap.size+3) 0 [.bool s11,.slice A11 n11 c11,.bool t11,.slice B11 m11 d11]=v7 from hV)
 clear hV z7 z7_0 y7_0 z7_1 y7_1 z7_2 y7_2 z7_3 y7_3
 have bK:=hJ (show Below w.heap.size w v7 by rw [←aK.out]; exact below_sto (bt aB.out aJ.out) aN.out _ _)
 have aG:=hJ (show BX 29 v7 w.heap.size #[.bool s0,.slice A0 n0 c0,.bool t0,.slice B0 m0 d0,.bool s1,.slice A1 n1 c1,.bool t1,.slice B1 m1 d1] by rw [←aK.out]; exact BX.far (BX.new aC.out aJ.out) (show w.heap.size≠w.heap.size+3 by omega) _ _)
 have aH:=hJ (show BX 29 v7 (w.heap.size+1) #[.bool s2,.slice A2 n2 c2,.bool t2,.slice B2 m2 d2,.bool s3,.slice A3 n3 c3,.bool t3,.slice B3 m3 d3] by rw [←aK.out]; exact BX.far (BX.new aD.out aJ.out) (show w.heap.size+1≠w.heap.size+3 by omega) _ _)
 have aI:=hJ (show BX 29 v7 (w.heap.size+2) #[.bool s4,.slice A4 n4 c4,.bool t4,.slice B4 m4 d4,.bool s5,.slice A5 n5 c5,.bool t5,.slice B5 m5 d5] by rw [←aK.out]; exact BX.far (BX.new aE.out aJ.out) (show w.heap.size+2≠w.heap.size+3 by omega) _ _)
 clear hHeld
 refine hK.out _ _ (⟨aG.out.cell 0 rfl,aG.out.cell 1 rfl,aG.out.cell 2 rfl,aG.out.cell 3 rfl,aG.out.cell 4 rfl,aG.out.cell 5 rfl,aG.out.cell 6 rfl,aG.out.cell 7 rfl,aH.out.cell 0 rfl,aH.out.cell 1 rfl,aH.out.cell 2 rfl,aH.out.cell 3 rfl,aH.out.cell 4 rfl,aH.out.cell 5 rfl,aH.out.cell 6 rfl,aH.out.cell 7 rfl,aI.out.cell 0 rfl,aI.out.cell 1 rfl,aI.out.cell 2 rfl,aI.out.cell 3 rfl,aI.out.cell 4 rfl,aI.out.cell 5 rfl,aI.out.cell 6 rfl,aI.out.cell 7 rfl,bK.out⟩) (fun hHeld=>?_)
 clear hK K
 refine tq 10 ?_
 try simp only [PT]
 refine wpAnyH_done (by kernel_rfl) ?_ _
 clear hHeld
 have bL:=hJ (show BX 27 v7 (w.heap.size+3) #[.bool s11,.slice A11 n11 c11,.bool t11,.slice B11 m11 d11] by rw [←aK.out]; exact BX.put aA.out _ _)
 have bM:=hJ (show Below w.heap.size w v7 by rw [←aK.out]; exact below_sto (bt aB.out aJ.out) aN.out _ _)
 have bN:=hJ (show PF v7 s11 A11 n11 c11 t11 B11 m11 d11 (feP (feV [C0,C1,C2,C3,C4,C5,C6]) P6) (feQ (feV [C0,C1,C2,C3,C4,C5,C6]) Q6) by rw [←aK.out]; exact PF.sto bJ.out aA.out rfl _ _)
 go_wp2
 exact bodyPost_ret (results_cell1 rfl _ _ _ _ _ _ _ rfl bL.out Tryz.underlying27 rfl F_size) rfl ⟨s11,A11,n11,c11,t11,B11,m11,d11,rfl,bN.out,bM.out⟩
end Go.Proofs.YteggneaefggbmaaGreat
