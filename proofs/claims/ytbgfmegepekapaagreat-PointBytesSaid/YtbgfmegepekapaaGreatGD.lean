/- Contracts: the program's Decode. Conditions: as each statement has them. -/
import Derived.Test.YtbgfmegepekapaaGreatB2
import Derived.Test.YtbgfmegepekapaaGreatB5
import Derived.Test.YtbgfmegepekapaaGreatB6
import Derived.Test.YtbgfmegepekapaaGreatFD
import Derived.Test.YtbgfmegepekapaaGreatGM
import Derived.Test.YtbgfmegepekapaaGreatGN
import Derived.Test.YtbgfmegepekapaaGreatGR
import Derived.Test.YtbgfmegepekapaaGreatPF
namespace Go.Proofs.YtbgfmegepekapaaGreat
open Go.RowKit
attribute [local go_sem ↓] Go.wp_at_zero Go.wp_at_succ
set_option linter.unusedVariables false
set_option linter.unusedSimpArgs false
/-- The first of two codes that is not 0. -/
def e2 (a b:Int):Int:=if a=0 then b else a
/-- A number, or another if there is an error. -/
def sl (e x d:Int):Int:=if e=0 then x else d
theorem e2_z {b:Int}:e2 0 b=b:=if_pos rfl
theorem e2_n {a b:Int} (h:¬ a=0):e2 a b=a:=if_neg h
theorem sl_z {x d:Int}:sl 0 x d=x:=if_pos rfl
theorem sl_n {e x d:Int} (h:¬ e=0):sl e x d=d:=if_neg h
theorem part_len (s:St):(partS s).1.length≤s.l.length∧(partS s).2.l.length≤s.l.length:=by
 have hu:(uintS s).2.l.length≤s.l.length:=by
  unfold uintS
  split
  ·exact Nat.le_refl _
  have h:∀ (l:List UInt8) (i acc:Nat),(scan i acc l).2.l.length≤l.length:=by
   intro l
   induction l with
   | nil=>intro i acc; exact Nat.le_refl _
   | cons c r ih =>
    intro i acc
    unfold scan
    split
    ·simp
    split
    ·simp
    have:=ih (i+1) (acc+c.toNat % 128*128 ^ i)
    simp only [List.length_cons]
    omega
  exact h _ _ _
 have hl:(lenS s).2.l.length≤s.l.length:=by
  unfold lenS
  split
  ·exact hu
  exact hu
 unfold partS
 split
 ·exact ⟨by simp,hl⟩
 ·refine ⟨?_,?_⟩
  ·simp only [List.length_take]; omega
  ·simp only [List.length_drop]; omega
theorem kp_below {g B:Nat} {w w':World} (hk:Own1 g w w') (hB:B≤w.heap.size) (hg:B≤g):Below B w w':=hk.below hB (fun k e=>by subst e; exact hg)
/-- The parts of an encoding and the reader behind them. -/
def dL1 (bs:List UInt8):List UInt8:=(partS ⟨bs,0⟩).1
def dS1 (bs:List UInt8):St:=(partS ⟨bs,0⟩).2
def dL2 (bs:List UInt8):List UInt8:=(partS (dS1 bs)).1
def dS2 (bs:List UInt8):St:=(partS (dS1 bs)).2
/-- What Decode returns. -/
def dcE (bs:List UInt8):Int:=if endS (dS2 bs)=0 then e2 (fqC (dL1 bs)) (fqC (dL2 bs)) else 2
def dcP1 (bs:List UInt8):Int:=sl (dcE bs) (fqP (dL1 bs)) 0
def dcQ1 (bs:List UInt8):Int:=sl (dcE bs) (fqQ (dL1 bs)) 1
def dcP2 (bs:List UInt8):Int:=sl (dcE bs) (fqP (dL2 bs)) 0
def dcQ2 (bs:List UInt8):Int:=sl (dcE bs) (fqQ (dL2 bs)) 1
theorem fqC_02 (l:List UInt8):fqC l=0∨fqC l=2:=by
 unfold fqC
 split <;> split <;> simp
theorem dcE_02 (bs:List UInt8):dcE bs=0∨dcE bs=2:=by
 unfold dcE e2
 have h1:=fqC_02 (dL1 bs)
 have h2:=fqC_02 (dL2 bs)
 split
 ·split
  ·exact h2
  exact h1
 ·exact .inr rfl
set_option maxRecDepth 100000 in
set_option maxHeartbeats 1600000 in
theorem dec1_any (l:List UInt8) (A:Option Addr) (n c:Nat) (ok:Nat→Prop) (w:World) (h:In .u8 w ok (.slice A n c) (bI l)) (hl:l.length≤100000) :
  Calls Tryz.prog 50 #[.slice A n c] w (RetFE (fqP l) (fqQ l) (fqC l) w):=by
 have HI:=hJ h
 have HL:=hJ hl
 clear h hl
 obtain ⟨x1,aB⟩:=nmz (w.alloc (.cells #[.bool false,.slice none 0 0,.bool false,.slice none 0 0] 27))
 have aD:=hJ (show Below w.heap.size w x1 by rw [←aB]; exact ((Below.refl _ _).alloc (Nat.le_refl _) _))
 have aH:=hJ (show BX 27 x1 w.heap.size #[.bool false,.slice none 0 0,.bool false,.slice none 0 0] by rw [←aB]; exact (BX.at rfl))
 have aI:=hJ (show w.heap.size≤w.heap.size by omega)
 have aJ:=hJ (In.new HI.out aD.out)
 have hconv:=(aJ.out).text (P:=Tryz.prog) (src:=22) (dst:=9) (e:=5) Tryz.underlying22 Tryz.underlying5 Tryz.underlying9
 go_enter Tryz.func50,Tryz.ntmps50
 go_wp2_with fail
 clear aB hconv
 refine (fparse_any l x1 HL.out).mono ?_
 rintro e w2 ⟨s11,A11,n11,c11,t11,B11,m11,d11,rfl,hr11,hb⟩
 have aF:=hJ hb
 have aK:=hJ hr11
 clear hb hr11
 have aA:=hJ (BX.new aH.out aF.out)
 have aL:=aA.out.frozen 0
 have aM:=aA.out.cell 0 rfl
 have aN:=aA.out.frozen 1
 have aO:=aA.out.cell 1 rfl
 have aR:=aA.out.frozen 2
 have aS:=aA.out.cell 2 rfl
 have aT:=aA.out.frozen 3
 have aU:=aA.out.cell 3 rfl
 obtain ⟨x3,aG⟩:=nmz (World.setCell (World.setCell (World.setCell (World.setCell w2 ⟨w.heap.size,0,none⟩ (.bool s11)) ⟨w.heap.size,1,none⟩ (.slice A11 n11 c11)) ⟨w.heap.size,2,none⟩ (.bool t11)) ⟨w.heap.size,3,none⟩ (.slice B11 m11 d11))
 have aC:=hJ (show sto w2 w.heap.size 0 [.bool s11,.slice A11 n11 c11,.bool t11,.slice B11 m11 d11]=x3 from aG)
 have aV:=hJ (show BX 27 x3 w.heap.size #[.bool s11,.slice A11 n11 c11,.bool t11,.slice B11 m11 d11] by rw [←aC.out]; exact BX.put aA.out _ _)
 have aW:=hJ (show Below w.heap.size w x3 by rw [←aC.out]; exact below_sto (bt aD.out aF.out) aI.out _ _)
 have aX:=hJ (show PF x3 s11 A11 n11 c11 t11 B11 m11 d11 (fqP l) (fqQ l) by rw [←aC.out]; exact PF.sto aK.out aA.out rfl _ _)
 go_wp2
 clear aL aM aN aO aR aS aT aU aG
 exact bodyPost_ret (results_cell1 rfl _ _ _ _ _ _ _ rfl aV.out Tryz.underlying27 rfl F_size) rfl ⟨s11,A11,n11,c11,t11,B11,m11,d11,rfl,aX.out,aW.out⟩
theorem gxb_0 {v0 v1:Value} (wx:World):(Instr.index 89 (.agg #[v0,v1]) (.int .i64 0)).run Tryz.prog wx=.ok v0 wx:=by
 first
  | kernel_rfl
  | simp [Instr.index,run_underlying Tryz.underlying89,asIntOf,go_sem]
theorem gxb_1 {v0 v1:Value} (wx:World):(Instr.index 89 (.agg #[v0,v1]) (.int .i64 1)).run Tryz.prog wx=.ok v1 wx:=by
 first
  | kernel_rfl
  | simp [Instr.index,run_underlying Tryz.underlying89,asIntOf,go_sem]
set_option maxRecDepth 100000 in
set_option maxHeartbeats 12800000 in
theorem eachb_any (l0 l1:List UInt8) (A0:Option Addr) (n0 k0:Nat) (ok0:Nat→Prop) (A1:Option Addr) (n1 k1:Nat) (ok1:Nat→Prop) (w:World) (h0:In .u8 w ok0 (.slice A0 n0 k0) (bI l0)) (h1:In .u8 w ok1 (.slice A1 n1 k1) (bI l1)) (hl0:l0.length≤100000) (hl1:l1.length≤100000) :
  Calls Tryz.prog 49 #[.agg #[.slice A0 n0 k0,.slice A1 n1 k1],.func (.func 50) #[] #[]] w (RetTT (sl (e2 (fqC l0) (fqC l1)) (fqP l0) 0) (sl (e2 (fqC l0) (fqC l1)) (fqQ l0) 1) (sl (e2 (fqC l0) (fqC l1)) (fqP l1) 0) (sl (e2 (fqC l0) (fqC l1)) (fqQ l1) 1) (e2 (fqC l0) (fqC l1)) w):=by
 have cI:=hJ h0
 have cJ:=hJ h1
 have HL:=hJ (And.intro hl0 hl1)
 obtain ⟨P0,hP⟩:=nmz (fqP l0)
 obtain ⟨Q0,hQ⟩:=nmz (fqQ l0)
 obtain ⟨C0,hC⟩:=nmz (fqC l0)
 have aY:=hJ (And.intro hP (And.intro hQ hC))
 clear hP hQ hC
 obtain ⟨P1,hP⟩:=nmz (fqP l1)
 obtain ⟨Q1,hQ⟩:=nmz (fqQ l1)
 obtain ⟨C1,hC⟩:=nmz (fqC l1)
 have aZ:=hJ (And.intro hP (And.intro hQ hC))
 clear hP hQ hC
 rw [aY.out.1,aY.out.2.1,aY.out.2.2,aZ.out.1,aZ.out.2.1,aZ.out.2.2]
 clear h0 h1 hl0 hl1
 have cK:=hJ (PF.zero w)
 obtain ⟨x1,bG⟩:=nmz ((w.alloc (.cells #[.slice A0 n0 k0,.slice A1 n1 k1] 89)).alloc (.cells #[.bool false,.slice none 0 0,.bool false,.slice none 0 0,.bool false,.slice none 0 0,.bool false,.slice none 0 0] 82))
 have bH:=hJ (show Below w.heap.size w x1 by rw [←bG]; exact (((Below.refl _ _).alloc (Nat.le_refl _) _).alloc (by simp only [World.size_alloc]; omega) _))
 have cL:=hJ (show BX 89 x1 w.heap.size #[.slice A0 n0 k0,.slice A1 n1 k1] by rw [←bG]; exact ((BX.at rfl).alloc _))
 have bM:=hJ (show BX 82 x1 (w.heap.size+1) #[.bool false,.slice none 0 0,.bool false,.slice none 0 0,.bool false,.slice none 0 0,.bool false,.slice none 0 0] by rw [←bG]; exact (BX.at (by simp only [World.size_alloc])))
 have bN:=hJ (show w.heap.size≤w.heap.size+1 by omega)
 obtain ⟨x2,bO⟩:=nmz (x1.alloc (.cells #[.bool false,.slice none 0 0,.bool false,.slice none 0 0,.bool false,.slice none 0 0,.bool false,.slice none 0 0] 82))
 have bP:=hJ (show Below x1.heap.size x1 x2 by rw [←bO]; exact ((Below.refl _ _).alloc (Nat.le_refl _) _))
 have cM:=hJ (show BX 82 x2 x1.heap.size #[.bool false,.slice none 0 0,.bool false,.slice none 0 0,.bool false,.slice none 0 0,.bool false,.slice none 0 0] by rw [←bO]; exact (BX.at rfl))
 have bA:=hJ (show x1.heap.size≤x1.heap.size by omega)
 have cN:=hJ (BX.new cL.out bP.out)
 obtain ⟨cO,cP⟩:=cN.out.c2 0 1 rfl rfl
 have cQ:=hJ (bt bH.out bP.out)
 have bU:=hJ (PF.new cK.out cQ.out)
 go_enter Tryz.func49,Tryz.ntmps49
 go_wp2_with fail
 clear bG bO cO cP
 go_loopw [11] (fun tv wr=>∃ (i:Nat) (aD:Bool) (aF:Option Addr) (aG:Nat) (aH:Nat) (aI:Bool) (aJ:Option Addr) (aK:Nat) (aL:Nat) (aM:Bool) (aN:Option Addr) (aO:Nat) (aR:Nat) (aS:Bool) (aT:Option Addr) (aU:Nat) (aV:Nat) (y0_5:Int) (z0_5:Int) (y1_5:Int) (z1_5:Int),i≤2∧tv=.int .i64 (i:Int)∧BX 82 wr x1.heap.size #[.bool aD,.slice aF aG aH,.bool aI,.slice aJ aK aL,.bool aM,.slice aN aO aR,.bool aS,.slice aT aU aV]∧PF wr aD aF aG aH aI aJ aK aL y0_5 z0_5∧PF wr aM aN aO aR aS aT aU aV y1_5 z1_5∧Hid ((0 < i→y0_5=P0∧z0_5=Q0∧C0=0)∧(1 < i→y1_5=P1∧z1_5=Q1∧C1=0))∧Below x1.heap.size x1 wr) (fun tv _=>2 - (intOf tv).toNat)
 case atStart=>exact ⟨0,false,none,0,0,false,none,0,0,false,none,0,0,false,none,0,0,0,1,0,1,by omega,rfl,cM.out,bU.out,bU.out,hJ (⟨fun h=>absurd h (by decide),fun h=>absurd h (by decide)⟩),bP.out⟩
 case round =>
  obtain ⟨i5,aD,aF,aG,aH,aI,aJ,aK,aL,aM,aN,aO,aR,aS,aT,aU,aV,y0_5,z0_5,y1_5,z1_5,hi,rfl,hz5_0,hz5_1,hz5_2,aW,hbel⟩:=hrel
  obtain ⟨wl5,rfl⟩:∃ W:World,W=wr:=⟨_,rfl⟩
  have bB:=hJ hbel
  have bE:=hJ hz5_0
  have bV:=hJ hz5_1
  have bW:=hJ hz5_2
  clear hbel hz5_0 hz5_1 hz5_2
  have bF:=hJ (bt bH.out bB.out)
  have hcs:i5=0∨i5=1∨i5=2:=by omega
  clear hi
  rcases hcs with rfl | rfl | rfl
  ·(try rw [show ((0:Nat):Int)=0 from rfl])
   have hix:∀ wx,(Instr.index 89 (.agg #[.slice A0 n0 k0,.slice A1 n1 k1]) (.int .i64 0)).run Tryz.prog wx=.ok (.slice A0 n0 k0) wx:=fun wx=>gxb_0 wx
   have cR:=hJ (In.new cI.out bF.out)
   go_wp2_with fail
   clear hix
   refine (dec1_any l0 A0 n0 k0 ok0 wl5 cR.out HL.out.1).mono ?_
   rw [aY.out.1,aY.out.2.1,aY.out.2.2]
   rintro e w6 ⟨s11,A11,n11,c11,t11,B11,m11,d11,rfl,hr11,hb⟩
   have bC:=hJ hb
   have cS:=hJ hr11
   clear hb hr11
   by_cases hc:C0=0
   ·obtain rfl:=hc
    have aA:=hJ (BX.new bE.out bC.out)
    have cT:=aA.out.frozen 0
    have cU:=aA.out.cell 0 rfl
    have cV:=aA.out.frozen 1
    have cW:=aA.out.cell 1 rfl
    have cX:=aA.out.frozen 2
    have cY:=aA.out.cell 2 rfl
    have cZ:=aA.out.frozen 3
    have dA:=aA.out.cell 3 rfl
    obtain ⟨x7,bX⟩:=nmz (World.setCell (World.setCell (World.setCell (World.setCell w6 ⟨x1.heap.size,0,none⟩ (.bool s11)) ⟨x1.heap.size,1,none⟩ (.slice A11 n11 c11)) ⟨x1.heap.size,2,none⟩ (.bool t11)) ⟨x1.heap.size,3,none⟩ (.slice B11 m11 d11))
    have bJ:=hJ (show sto w6 x1.heap.size 0 [.bool s11,.slice A11 n11 c11,.bool t11,.slice B11 m11 d11]=x7 from bX)
    have dB:=hJ (show BX 82 x7 x1.heap.size #[.bool s11,.slice A11 n11 c11,.bool t11,.slice B11 m11 d11,.bool aM,.slice aN aO aR,.bool aS,.slice aT aU aV] by rw [←bJ.out]; exact BX.put aA.out _ _)
    have dD:=hJ (show PF x7 s11 A11 n11 c11 t11 B11 m11 d11 P0 Q0 by rw [←bJ.out]; exact PF.sto cS.out aA.out rfl _ _)
    have bQ:=hJ (PF.new bW.out bC.out)
    have dE:=hJ (show PF x7 aM aN aO aR aS aT aU aV y1_5 z1_5 by rw [←bJ.out]; exact PF.sto bQ.out aA.out rfl _ _)
    have aX:=hJ (show Below x1.heap.size x1 x7 by rw [←bJ.out]; exact below_sto (bt bB.out bC.out) bA.out _ _)
    go_wp2_with fail
    clear cT cU cV cW cX cY cZ dA bX
    go_roundw
    case rel=>exact ⟨0+1,s11,A11,n11,c11,t11,B11,m11,d11,aM,aN,aO,aR,aS,aT,aU,aV,P0,Q0,y1_5,z1_5,by omega,by go_num,dB.out,dD.out,dE.out,hJ (⟨fun _=>⟨rfl,rfl,by first | rfl | trivial⟩,fun h=>absurd h (by decide)⟩),aX.out⟩
    case measure=>simp [intOf] <;> omega
   have hcz:(C0 == 0)=false:=by simp [hc]
   have HV:=hJ (show e2 C0 C1=C0 from e2_n hc)
   have HN:=hJ hc
   clear hc
   have aA:=hJ (BX.new bE.out bC.out)
   have dF:=aA.out.frozen 0
   have dG:=aA.out.cell 0 rfl
   have dH:=aA.out.frozen 1
   have dI:=aA.out.cell 1 rfl
   have dJ:=aA.out.frozen 2
   have dK:=aA.out.cell 2 rfl
   have dL:=aA.out.frozen 3
   have dM:=aA.out.cell 3 rfl
   obtain ⟨x8,bY⟩:=nmz (World.setCell (World.setCell (World.setCell (World.setCell w6 ⟨x1.heap.size,0,none⟩ (.bool s11)) ⟨x1.heap.size,1,none⟩ (.slice A11 n11 c11)) ⟨x1.heap.size,2,none⟩ (.bool t11)) ⟨x1.heap.size,3,none⟩ (.slice B11 m11 d11))
   have bZ:=hJ (show sto w6 x1.heap.size 0 [.bool s11,.slice A11 n11 c11,.bool t11,.slice B11 m11 d11]=x8 from bY)
   have aX:=hJ (show Below x1.heap.size x1 x8 by rw [←bZ.out]; exact below_sto (bt bB.out bC.out) bA.out _ _)
   have aB:=hJ (BX.new bM.out aX.out)
   have dN:=aB.out.frozen 0
   have dO:=aB.out.cell 0 rfl
   have dP:=aB.out.frozen 1
   have dQ:=aB.out.cell 1 rfl
   have dR:=aB.out.frozen 2
   have dS:=aB.out.cell 2 rfl
   have dT:=aB.out.frozen 3
   have dU:=aB.out.cell 3 rfl
   have dW:=aB.out.frozen 4
   have dX:=aB.out.cell 4 rfl
   have dY:=aB.out.frozen 5
   have dZ:=aB.out.cell 5 rfl
   have eA:=aB.out.frozen 6
   have eB:=aB.out.cell 6 rfl
   have eC:=aB.out.frozen 7
   have eD:=aB.out.cell 7 rfl
   obtain ⟨x9,cA⟩:=nmz (World.setCell (World.setCell (World.setCell (World.setCell (World.setCell (World.setCell (World.setCell (World.setCell x8 ⟨w.heap.size+1,0,none⟩ (.bool false)) ⟨w.heap.size+1,1,none⟩ (.slice none 0 0)) ⟨w.heap.size+1,2,none⟩ (.bool false)) ⟨w.heap.size+1,3,none⟩ (.slice none 0 0)) ⟨w.heap.size+1,4,none⟩ (.bool false)) ⟨w.heap.size+1,5,none⟩ (.slice none 0 0)) ⟨w.heap.size+1,6,none⟩ (.bool false)) ⟨w.heap.size+1,7,none⟩ (.slice none 0 0))
   have cB:=hJ (show sto x8 (w.heap.size+1) 0 [.bool false,.slice none 0 0,.bool false,.slice none 0 0,.bool false,.slice none 0 0,.bool false,.slice none 0 0]=x9 from cA)
   have eE:=hJ (show BX 82 x9 (w.heap.size+1) #[.bool false,.slice none 0 0,.bool false,.slice none 0 0,.bool false,.slice none 0 0,.bool false,.slice none 0 0] by rw [←cB.out]; exact BX.put aB.out _ _)
   have bR:=hJ (show Below w.heap.size w x8 by rw [←bZ.out]; exact below_sto (bt bF.out bC.out) (Nat.le_trans (bH.out).size bA.out) _ _)
   have bS:=hJ (show Below w.heap.size w x9 by rw [←cB.out]; exact below_sto bR.out bN.out _ _)
   go_wp2
   clear dF dG dH dI dJ dK dL dM bY dN dO dP dQ dR dS dT dU dW dX dY dZ eA eB eC eD cA
   exact bodyPost_ret (results_cell1 rfl _ _ _ _ _ _ _ rfl eE.out Tryz.underlying82 rfl (by kernel_rfl)) rfl (by rw [HV.out,sl_n HN.out,sl_n HN.out,sl_n HN.out,sl_n HN.out]; exact ⟨false,none,0,0,false,none,0,0,false,none,0,0,false,none,0,0,rfl,PF.zero _,PF.zero _,bS.out⟩)
  ·(try rw [show ((1:Nat):Int)=1 from rfl])
   obtain rfl:P0=y0_5:=(aW.out.1 (by decide)).1.symm
   obtain rfl:Q0=z0_5:=(aW.out.1 (by decide)).2.1.symm
   obtain rfl:C0=0:=(aW.out.1 (by decide)).2.2
   have hix:∀ wx,(Instr.index 89 (.agg #[.slice A0 n0 k0,.slice A1 n1 k1]) (.int .i64 1)).run Tryz.prog wx=.ok (.slice A1 n1 k1) wx:=fun wx=>gxb_1 wx
   have eF:=hJ (In.new cJ.out bF.out)
   go_wp2_with fail
   clear hix
   refine (dec1_any l1 A1 n1 k1 ok1 wl5 eF.out HL.out.2).mono ?_
   rw [aZ.out.1,aZ.out.2.1,aZ.out.2.2]
   rintro e w10 ⟨s12,A12,n12,c12,t12,B12,m12,d12,rfl,hr12,hb⟩
   have bD:=hJ hb
   have eG:=hJ hr12
   clear hb hr12
   by_cases hc:C1=0
   ·obtain rfl:=hc
    have aA:=hJ (BX.new bE.out bD.out)
    have eH:=aA.out.frozen 4
    have eI:=aA.out.cell 4 rfl
    have eJ:=aA.out.frozen 5
    have eK:=aA.out.cell 5 rfl
    have eL:=aA.out.frozen 6
    have eM:=aA.out.cell 6 rfl
    have eN:=aA.out.frozen 7
    have eO:=aA.out.cell 7 rfl
    obtain ⟨x11,cC⟩:=nmz (World.setCell (World.setCell (World.setCell (World.setCell w10 ⟨x1.heap.size,4,none⟩ (.bool s12)) ⟨x1.heap.size,5,none⟩ (.slice A12 n12 c12)) ⟨x1.heap.size,6,none⟩ (.bool t12)) ⟨x1.heap.size,7,none⟩ (.slice B12 m12 d12))
    have bK:=hJ (show sto w10 x1.heap.size 4 [.bool s12,.slice A12 n12 c12,.bool t12,.slice B12 m12 d12]=x11 from cC)
    have eP:=hJ (show BX 82 x11 x1.heap.size #[.bool aD,.slice aF aG aH,.bool aI,.slice aJ aK aL,.bool s12,.slice A12 n12 c12,.bool t12,.slice B12 m12 d12] by rw [←bK.out]; exact BX.put aA.out _ _)
    have bT:=hJ (PF.new bV.out bD.out)
    have eQ:=hJ (show PF x11 aD aF aG aH aI aJ aK aL P0 Q0 by rw [←bK.out]; exact PF.sto bT.out aA.out rfl _ _)
    have eR:=hJ (show PF x11 s12 A12 n12 c12 t12 B12 m12 d12 P1 Q1 by rw [←bK.out]; exact PF.sto eG.out aA.out rfl _ _)
    have aX:=hJ (show Below x1.heap.size x1 x11 by rw [←bK.out]; exact below_sto (bt bB.out bD.out) bA.out _ _)
    go_wp2_with fail
    clear eH eI eJ eK eL eM eN eO cC
    go_roundw
    case rel=>exact ⟨1+1,aD,aF,aG,aH,aI,aJ,aK,aL,s12,A12,n12,c12,t12,B12,m12,d12,P0,Q0,P1,Q1,by omega,by go_num,eP.out,eQ.out,eR.out,hJ (⟨fun _=>⟨rfl,rfl,by first | rfl | trivial⟩,fun _=>⟨rfl,rfl,by first | rfl | trivial⟩⟩),aX.out⟩
    case measure=>simp [intOf] <;> omega
   have hcz:(C1 == 0)=false:=by simp [hc]
   have HV:=hJ (show e2 0 C1=C1 from e2_z)
   have HN:=hJ hc
   clear hc
   have aA:=hJ (BX.new bE.out bD.out)
   have eS:=aA.out.frozen 4
   have eT:=aA.out.cell 4 rfl
   have eU:=aA.out.frozen 5
   have eV:=aA.out.cell 5 rfl
   have eW:=aA.out.frozen 6
   have eX:=aA.out.cell 6 rfl
   have eY:=aA.out.frozen 7
   have eZ:=aA.out.cell 7 rfl
   obtain ⟨x12,cD⟩:=nmz (World.setCell (World.setCell (World.setCell (World.setCell w10 ⟨x1.heap.size,4,none⟩ (.bool s12)) ⟨x1.heap.size,5,none⟩ (.slice A12 n12 c12)) ⟨x1.heap.size,6,none⟩ (.bool t12)) ⟨x1.heap.size,7,none⟩ (.slice B12 m12 d12))
   have cE:=hJ (show sto w10 x1.heap.size 4 [.bool s12,.slice A12 n12 c12,.bool t12,.slice B12 m12 d12]=x12 from cD)
   have aX:=hJ (show Below x1.heap.size x1 x12 by rw [←cE.out]; exact below_sto (bt bB.out bD.out) bA.out _ _)
   have aB:=hJ (BX.new bM.out aX.out)
   have fA:=aB.out.frozen 0
   have fB:=aB.out.cell 0 rfl
   have fC:=aB.out.frozen 1
   have fD:=aB.out.cell 1 rfl
   have fE:=aB.out.frozen 2
   have fF:=aB.out.cell 2 rfl
   have fG:=aB.out.frozen 3
   have fH:=aB.out.cell 3 rfl
   have fI:=aB.out.frozen 4
   have fJ:=aB.out.cell 4 rfl
   have fK:=aB.out.frozen 5
   have fL:=aB.out.cell 5 rfl
   have fM:=aB.out.frozen 6
   have fN:=aB.out.cell 6 rfl
   have fO:=aB.out.frozen 7
   have fP:=aB.out.cell 7 rfl
   obtain ⟨x13,cF⟩:=nmz (World.setCell (World.setCell (World.setCell (World.setCell (World.setCell (World.setCell (World.setCell (World.setCell x12 ⟨w.heap.size+1,0,none⟩ (.bool false)) ⟨w.heap.size+1,1,none⟩ (.slice none 0 0)) ⟨w.heap.size+1,2,none⟩ (.bool false)) ⟨w.heap.size+1,3,none⟩ (.slice none 0 0)) ⟨w.heap.size+1,4,none⟩ (.bool false)) ⟨w.heap.size+1,5,none⟩ (.slice none 0 0)) ⟨w.heap.size+1,6,none⟩ (.bool false)) ⟨w.heap.size+1,7,none⟩ (.slice none 0 0))
   have cG:=hJ (show sto x12 (w.heap.size+1) 0 [.bool false,.slice none 0 0,.bool false,.slice none 0 0,.bool false,.slice none 0 0,.bool false,.slice none 0 0]=x13 from cF)
   have fQ:=hJ (show BX 82 x13 (w.heap.size+1) #[.bool false,.slice none 0 0,.bool false,.slice none 0 0,.bool false,.slice none 0 0,.bool false,.slice none 0 0] by rw [←cG.out]; exact BX.put aB.out _ _)
   have bR:=hJ (show Below w.heap.size w x12 by rw [←cE.out]; exact below_sto (bt bF.out bD.out) (Nat.le_trans (bH.out).size bA.out) _ _)
   have bS:=hJ (show Below w.heap.size w x13 by rw [←cG.out]; exact below_sto bR.out bN.out _ _)
   go_wp2
   clear eS eT eU eV eW eX eY eZ cD fA fB fC fD fE fF fG fH fI fJ fK fL fM fN fO fP cF
   exact bodyPost_ret (results_cell1 rfl _ _ _ _ _ _ _ rfl fQ.out Tryz.underlying82 rfl (by kernel_rfl)) rfl (by rw [HV.out,sl_n HN.out,sl_n HN.out,sl_n HN.out,sl_n HN.out]; exact ⟨false,none,0,0,false,none,0,0,false,none,0,0,false,none,0,0,rfl,PF.zero _,PF.zero _,bS.out⟩)
  ·(try rw [show ((2:Nat):Int)=2 from rfl])
   obtain rfl:P0=y0_5:=(aW.out.1 (by decide)).1.symm
   obtain rfl:Q0=z0_5:=(aW.out.1 (by decide)).2.1.symm
   obtain rfl:C0=0:=(aW.out.1 (by decide)).2.2
   obtain rfl:P1=y1_5:=(aW.out.2 (by decide)).1.symm
   obtain rfl:Q1=z1_5:=(aW.out.2 (by decide)).2.1.symm
   obtain rfl:C1=0:=(aW.out.2 (by decide)).2.2
   obtain ⟨fR,fS,fT,fU,fV,fW,fX,fY⟩:=bE.out.q8 0 1 2 3 4 5 6 7
   have aC:=hJ (BX.new bM.out bB.out)
   have fZ:=aC.out.frozen 0
   have gA:=aC.out.cell 0 rfl
   have gB:=aC.out.frozen 1
   have gC:=aC.out.cell 1 rfl
   have gD:=aC.out.frozen 2
   have gE:=aC.out.cell 2 rfl
   have gF:=aC.out.frozen 3
   have gG:=aC.out.cell 3 rfl
   have gH:=aC.out.frozen 4
   have gI:=aC.out.cell 4 rfl
   have gJ:=aC.out.frozen 5
   have gK:=aC.out.cell 5 rfl
   have gL:=aC.out.frozen 6
   have gM:=aC.out.cell 6 rfl
   have gN:=aC.out.frozen 7
   have gO:=aC.out.cell 7 rfl
   obtain ⟨x22,cH⟩:=nmz (World.setCell (World.setCell (World.setCell (World.setCell (World.setCell (World.setCell (World.setCell (World.setCell wl5 ⟨w.heap.size+1,0,none⟩ (.bool aD)) ⟨w.heap.size+1,1,none⟩ (.slice aF aG aH)) ⟨w.heap.size+1,2,none⟩ (.bool aI)) ⟨w.heap.size+1,3,none⟩ (.slice aJ aK aL)) ⟨w.heap.size+1,4,none⟩ (.bool aM)) ⟨w.heap.size+1,5,none⟩ (.slice aN aO aR)) ⟨w.heap.size+1,6,none⟩ (.bool aS)) ⟨w.heap.size+1,7,none⟩ (.slice aT aU aV))
   have bL:=hJ (show sto wl5 (w.heap.size+1) 0 [.bool aD,.slice aF aG aH,.bool aI,.slice aJ aK aL,.bool aM,.slice aN aO aR,.bool aS,.slice aT aU aV]=x22 from cH)
   have gP:=hJ (show BX 82 x22 (w.heap.size+1) #[.bool aD,.slice aF aG aH,.bool aI,.slice aJ aK aL,.bool aM,.slice aN aO aR,.bool aS,.slice aT aU aV] by rw [←bL.out]; exact BX.put aC.out _ _)
   have gQ:=hJ (show Below w.heap.size w x22 by rw [←bL.out]; exact below_sto bF.out bN.out _ _)
   have bT:=hJ (show PF x22 aD aF aG aH aI aJ aK aL P0 Q0 by rw [←bL.out]; exact PF.sto bV.out aC.out rfl _ _)
   have bQ:=hJ (show PF x22 aM aN aO aR aS aT aU aV P1 Q1 by rw [←bL.out]; exact PF.sto bW.out aC.out rfl _ _)
   go_wp2
   clear fR fS fT fU fV fW fX fY fZ gA gB gC gD gE gF gG gH gI gJ gK gL gM gN gO cH
   exact bodyPost_ret (results_cell1 rfl _ _ _ _ _ _ _ rfl gP.out Tryz.underlying82 rfl (by kernel_rfl)) rfl (by rw [e2_z,sl_z,sl_z,sl_z,sl_z]; exact ⟨aD,aF,aG,aH,aI,aJ,aK,aL,aM,aN,aO,aR,aS,aT,aU,aV,rfl,bT.out,bQ.out,gQ.out⟩)
set_option maxRecDepth 100000 in
set_option maxHeartbeats 12800000 in
theorem decode_any (bs:List UInt8) (A:Option Addr) (n c:Nat) (ok:Nat→Prop) (w:World) (hi:In .u8 w ok (.slice A n c) (bI bs)) (hn:bs.length=n) (hl:n≤20000) :
  Calls Tryz.prog 11 #[.slice A n c] w (RetTT (dcP1 bs) (dcQ1 bs) (dcP2 bs) (dcQ2 bs) (dcE bs) w):=by
 have HI:=hJ hi
 have HN:=hJ (And.intro hn hl)
 obtain ⟨L1,hL1⟩:=nmz (dL1 bs)
 obtain ⟨s1,hs1⟩:=nmz (dS1 bs)
 obtain ⟨L2,hL2⟩:=nmz (dL2 bs)
 obtain ⟨s2,hs2⟩:=nmz (dS2 bs)
 have aK:=hJ (show partS ⟨bs,0⟩=(L1,s1) by rw [←hL1,←hs1]; rfl)
 have aL:=hJ (show partS s1=(L2,s2) by rw [←hL2,←hs2,dL2,dS2,hs1])
 have aF:=hJ (show L1.length≤20000∧L2.length≤20000 by
  have h1:=part_len ⟨bs,0⟩
  have h2:=part_len s1
  rw [aK.out] at h1
  rw [aL.out] at h2
  have h3:bs.length≤20000:=by omega
  exact ⟨Nat.le_trans h1.1 h3,Nat.le_trans h2.1 (Nat.le_trans h1.2 h3)⟩)
 have aT:=hJ (show dcE bs=if endS s2=0 then e2 (fqC L1) (fqC L2) else 2 by rw [dcE,hL1,hL2,hs2])
 have aC:=hJ (show ((dcP1 bs=sl (dcE bs) (fqP L1) 0∧dcQ1 bs=sl (dcE bs) (fqQ L1) 1)∧dcP2 bs=sl (dcE bs) (fqP L2) 0∧dcQ2 bs=sl (dcE bs) (fqQ L2) 1) by rw [←hL1,←hL2]; exact ⟨⟨rfl,rfl⟩,rfl,rfl⟩)
 rw [aC.out.1.1,aC.out.1.2,aC.out.2.1,aC.out.2.2]
 clear hi hn hl hL1 hs1 hL2 hs2 aC
 obtain ⟨x1,aM⟩:=nmz (w.alloc (.cells #[.bool false,.slice none 0 0,.bool false,.slice none 0 0,.bool false,.slice none 0 0,.bool false,.slice none 0 0] 29))
 have aG:=hJ (show Below w.heap.size w x1 by rw [←aM]; exact ((Below.refl _ _).alloc (Nat.le_refl _) _))
 have aU:=hJ (show BX 29 x1 w.heap.size #[.bool false,.slice none 0 0,.bool false,.slice none 0 0,.bool false,.slice none 0 0,.bool false,.slice none 0 0] by rw [←aM]; exact (BX.at rfl))
 have aV:=hJ (show w.heap.size≤w.heap.size by omega)
 have bL:=hJ (In.new HI.out aG.out)
 go_enter Tryz.func11,Tryz.ntmps11
 go_wp2_with fail
 clear aM
 refine (read_new bs A n c ok x1 HN.out.1 (by have:=HN.out.2; omega) bL.out).mono ?_
 rintro e w2 ⟨⟨gr,rfl,hrd,hgr⟩,hb⟩
 obtain ⟨okr,hokr⟩:=nmz ((fun b=>x1.heap.size≤b∧b < gr))
 rw [hokr] at hrd
 have aW:=hJ hrd
 have aH:=hJ hgr
 have aN:=hJ hb
 clear hrd hgr hb hokr
 have aX:=hJ (bt aG.out aN.out)
 go_wp2_with fail
 refine (rdraw_any gr okr ⟨bs,0⟩ w2 aW.out (by rw [aK.out]; have:=aF.out.1; show L1.length≤_; omega)).mono ?_
 rw [aK.out]
 rintro e w3 ⟨⟨a1,m1,k1,rfl,hm,hown⟩,hrd,hk⟩
 have bM:=hJ (show Rdr 142 w3 gr okr s1 from hrd)
 have aY:=hJ hk
 have bN:=hJ (show In .u8 w3 (w2.heap.size ≤ ·) (.slice a1 m1 k1) (bI L1) from In.own hown)
 have bO:=hJ (show gr < w2.heap.size from aW.out.lt)
 clear hrd hm hown hk
 have aZ:=hJ (Below.trans aX.out (kp_below aY.out (aX.out).size (Nat.le_trans (aG.out).size aH.out)))
 have bA:=hJ (Below.trans aN.out (kp_below aY.out (aN.out).size aH.out))
 have bP:=hJ (show gr < w2.heap.size from bO.out)
 go_wp2_with fail
 refine (rdraw_any gr okr s1 w3 bM.out (by rw [aL.out]; have:=aF.out.2; show L2.length≤_; omega)).mono ?_
 rw [aL.out]
 rintro e w4 ⟨⟨a2,m2,k2,rfl,hm,hown⟩,hrd,hk⟩
 have bB:=hJ (show Rdr 142 w4 gr okr s2 from hrd)
 have aO:=hJ hk
 have bQ:=hJ (show In .u8 w4 (w3.heap.size ≤ ·) (.slice a2 m2 k2) (bI L2) from In.own hown)
 clear hrd hm hown hk
 have bC:=hJ (Below.trans aZ.out (kp_below aO.out (aZ.out).size (Nat.le_trans (aG.out).size aH.out)))
 have bD:=hJ (Below.trans bA.out (kp_below aO.out (bA.out).size aH.out))
 have bR:=hJ (In.kp bN.out aO.out (fun b _ h e=>by have:=bP.out; have h':w2.heap.size≤b:=h; have e':b=gr:=e; omega))
 obtain ⟨en,hen⟩:=nmz (endS s2)
 have aI:=hJ hen
 clear hen
 by_cases hc:en=0
 ·have hcz:((en:Int) == 0)=true:=by simp [hc]
  have HV:=hJ (show dcE bs=e2 (fqC L1) (fqC L2) by rw [aT.out,if_pos (by rw [aI.out]; exact hc)])
  clear hc
  obtain ⟨x5,aR⟩:=nmz (w4.alloc (.cells #[.slice a1 m1 k1,.slice a2 m2 k2] 89))
  have aD:=hJ (show Below w4.heap.size w4 x5 by rw [←aR]; exact ((Below.refl _ _).alloc (Nat.le_refl _) _))
  have bS:=hJ (show BX 89 x5 w4.heap.size #[.slice a1 m1 k1,.slice a2 m2 k2] by rw [←aR]; exact (BX.at rfl))
  have bT:=hJ (show Rdr 142 x5 gr okr s2 from Rdr.new bB.out aD.out)
  go_wp2_with fail
  clear aR
  refine (rdend_any gr okr s2 x5 bT.out).mono ?_
  rw [aI.out]
  rintro e w7 ⟨rfl,rfl⟩
  obtain ⟨bU,bV⟩:=bS.out.c2 0 1 rfl rfl
  have bW:=hJ (In.new bR.out aD.out)
  have bX:=hJ (In.new bQ.out aD.out)
  go_wp2_with fail
  clear bU bV
  refine (eachb_any L1 L2 a1 m1 k1 (w2.heap.size ≤ ·) a2 m2 k2 (w3.heap.size ≤ ·) x5 bW.out bX.out (by have:=aF.out.1; omega) (by have:=aF.out.2; omega)).mono ?_
  rintro e w10 ⟨s11,A11,n11,c11,t11,B11,m11,d11,s12,A12,n12,c12,t12,B12,m12,d12,rfl,hr11,hr12,hb⟩
  have bE:=hJ hb
  have bY:=hJ hr11
  have bZ:=hJ hr12
  clear hb hr11 hr12
  go_wp2_with fail
  refine (rational_any (sl (e2 (fqC L1) (fqC L2)) (fqP L1) 0) (sl (e2 (fqC L1) (fqC L2)) (fqQ L1) 1) (sl (e2 (fqC L1) (fqC L2)) (fqP L2) 0) (sl (e2 (fqC L1) (fqC L2)) (fqQ L2) 1) s11 A11 n11 c11 t11 B11 m11 d11 s12 A12 n12 c12 t12 B12 m12 d12 (e2 (fqC L1) (fqC L2)) w10 bY.out bZ.out).mono ?_
  rintro e w11 ⟨s13,A13,n13,c13,t13,B13,m13,d13,s14,A14,n14,c14,t14,B14,m14,d14,rfl,hr13,hr14,hb⟩
  have bF:=hJ hb
  have cA:=hJ hr13
  have cB:=hJ hr14
  clear hb hr13 hr14
  have cC:=hJ (bt (bt (bt bD.out aD.out) bE.out) bF.out)
  have aA:=hJ (BX.new aU.out cC.out)
  have cD:=aA.out.frozen 0
  have cE:=aA.out.cell 0 rfl
  have cF:=aA.out.frozen 1
  have cG:=aA.out.cell 1 rfl
  have cH:=aA.out.frozen 2
  have cI:=aA.out.cell 2 rfl
  have cJ:=aA.out.frozen 3
  have cK:=aA.out.cell 3 rfl
  have cL:=aA.out.frozen 4
  have cM:=aA.out.cell 4 rfl
  have cN:=aA.out.frozen 5
  have cO:=aA.out.cell 5 rfl
  have cP:=aA.out.frozen 6
  have cQ:=aA.out.cell 6 rfl
  have cR:=aA.out.frozen 7
  have cS:=aA.out.cell 7 rfl
  obtain ⟨x12,bG⟩:=nmz (World.setCell (World.setCell (World.setCell (World.setCell (World.setCell (World.setCell (World.setCell (World.setCell w11 ⟨w.heap.size,0,none⟩ (.bool s13)) ⟨w.heap.size,1,none⟩ (.slice A13 n13 c13)) ⟨w.heap.size,2,none⟩ (.bool t13)) ⟨w.heap.size,3,none⟩ (.slice B13 m13 d13)) ⟨w.heap.size,4,none⟩ (.bool s14)) ⟨w.heap.size,5,none⟩ (.slice A14 n14 c14)) ⟨w.heap.size,6,none⟩ (.bool t14)) ⟨w.heap.size,7,none⟩ (.slice B14 m14 d14))
  have aJ:=hJ (show sto w11 w.heap.size 0 [.bool s13,.slice A13 n13 c13,.bool t13,.slice B13 m13 d13,.bool s14,.slice A14 n14 c14,.bool t14,.slice B14 m14 d14]=x12 from bG)
  have cT:=hJ (show BX 29 x12 w.heap.size #[.bool s13,.slice A13 n13 c13,.bool t13,.slice B13 m13 d13,.bool s14,.slice A14 n14 c14,.bool t14,.slice B14 m14 d14] by rw [←aJ.out]; exact BX.put aA.out _ _)
  have cU:=hJ (show Below w.heap.size w x12 by rw [←aJ.out]; exact below_sto (bt (bt (bt bC.out aD.out) bE.out) bF.out) aV.out _ _)
  have cV:=hJ (show PF x12 s13 A13 n13 c13 t13 B13 m13 d13 (sl (e2 (fqC L1) (fqC L2)) (fqP L1) 0) (sl (e2 (fqC L1) (fqC L2)) (fqQ L1) 1) by rw [←aJ.out]; exact PF.sto cA.out aA.out rfl _ _)
  have cW:=hJ (show PF x12 s14 A14 n14 c14 t14 B14 m14 d14 (sl (e2 (fqC L1) (fqC L2)) (fqP L2) 0) (sl (e2 (fqC L1) (fqC L2)) (fqQ L2) 1) by rw [←aJ.out]; exact PF.sto cB.out aA.out rfl _ _)
  go_wp2
  clear cD cE cF cG cH cI cJ cK cL cM cN cO cP cQ cR cS bG
  exact bodyPost_ret (results_cell1 rfl _ _ _ _ _ _ _ rfl cT.out Tryz.underlying29 rfl TP_size) rfl (by rw [HV.out]; exact ⟨s13,A13,n13,c13,t13,B13,m13,d13,s14,A14,n14,c14,t14,B14,m14,d14,rfl,cV.out,cW.out,cU.out⟩)
 ·have hcz:((en:Int) == 0)=false:=by simp; omega
  have HV:=hJ (show dcE bs=2 by rw [aT.out,if_neg (by rw [aI.out]; exact hc)])
  clear hc
  obtain ⟨x13,bH⟩:=nmz (w4.alloc (.cells #[.slice a1 m1 k1,.slice a2 m2 k2] 89))
  have aS:=hJ (show Below w4.heap.size w4 x13 by rw [←bH]; exact ((Below.refl _ _).alloc (Nat.le_refl _) _))
  have cX:=hJ (show Rdr 142 x13 gr okr s2 from Rdr.new bB.out aS.out)
  go_wp2_with fail
  clear bH
  refine (rdend_any gr okr s2 x13 cX.out).mono ?_
  rw [aI.out]
  rintro e w15 ⟨rfl,rfl⟩
  have cY:=hJ (bt bD.out aS.out)
  have aB:=hJ (BX.new aU.out cY.out)
  have cZ:=aB.out.frozen 0
  have dA:=aB.out.cell 0 rfl
  have dB:=aB.out.frozen 1
  have dD:=aB.out.cell 1 rfl
  have dE:=aB.out.frozen 2
  have dF:=aB.out.cell 2 rfl
  have dG:=aB.out.frozen 3
  have dH:=aB.out.cell 3 rfl
  have dI:=aB.out.frozen 4
  have dJ:=aB.out.cell 4 rfl
  have dK:=aB.out.frozen 5
  have dL:=aB.out.cell 5 rfl
  have dM:=aB.out.frozen 6
  have dN:=aB.out.cell 6 rfl
  have dO:=aB.out.frozen 7
  have dP:=aB.out.cell 7 rfl
  obtain ⟨x16,bJ⟩:=nmz (World.setCell (World.setCell (World.setCell (World.setCell (World.setCell (World.setCell (World.setCell (World.setCell x13 ⟨w.heap.size,0,none⟩ (.bool false)) ⟨w.heap.size,1,none⟩ (.slice none 0 0)) ⟨w.heap.size,2,none⟩ (.bool false)) ⟨w.heap.size,3,none⟩ (.slice none 0 0)) ⟨w.heap.size,4,none⟩ (.bool false)) ⟨w.heap.size,5,none⟩ (.slice none 0 0)) ⟨w.heap.size,6,none⟩ (.bool false)) ⟨w.heap.size,7,none⟩ (.slice none 0 0))
  have bK:=hJ (show sto x13 w.heap.size 0 [.bool false,.slice none 0 0,.bool false,.slice none 0 0,.bool false,.slice none 0 0,.bool false,.slice none 0 0]=x16 from bJ)
  have dQ:=hJ (show BX 29 x16 w.heap.size #[.bool false,.slice none 0 0,.bool false,.slice none 0 0,.bool false,.slice none 0 0,.bool false,.slice none 0 0] by rw [←bK.out]; exact BX.put aB.out _ _)
  have dR:=hJ (show Below w.heap.size w x16 by rw [←bK.out]; exact below_sto (bt bC.out aS.out) aV.out _ _)
  go_wp2
  clear cZ dA dB dD dE dF dG dH dI dJ dK dL dM dN dO dP bJ
  exact bodyPost_ret (results_cell1 rfl _ _ _ _ _ _ _ rfl dQ.out Tryz.underlying29 rfl TP_size) rfl (by rw [HV.out,sl_n (e:=2) (by decide),sl_n (e:=2) (by decide),sl_n (e:=2) (by decide),sl_n (e:=2) (by decide)]; exact ⟨false,none,0,0,false,none,0,0,false,none,0,0,false,none,0,0,rfl,PF.zero _,PF.zero _,dR.out⟩)
end Go.Proofs.YtbgfmegepekapaaGreat
