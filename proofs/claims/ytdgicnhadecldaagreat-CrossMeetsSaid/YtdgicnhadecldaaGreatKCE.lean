/- Contracts of slices.MinFunc and MaxFunc over points. Conditions: as each statement has them. -/
import Derived.Test.YtdgicnhadecldaaGreatKAE
import Derived.Test.YtdgicnhadecldaaGreatKB2
import Derived.Test.YtdgicnhadecldaaGreatKB5
import Derived.Test.YtdgicnhadecldaaGreatKEA
import Derived.Test.YtdgicnhadecldaaGreatKFD
import Derived.Test.YtdgicnhadecldaaGreatKPF
namespace Go.Proofs.YtdgicnhadecldaaGreat
open Go.RowKit
attribute [local go_sem ↓] Go.wp_at_zero Go.wp_at_succ
set_option linter.unusedVariables false
set_option linter.unusedSimpArgs false
/-- A point by its two fractions. -/
abbrev Pt4:=Int × Int × Int × Int
/-- The elements of a row of points. -/
def Pl (w:World) (cs:List Value) (L:List Pt4):Prop:=∀ k x,L[k]?=some x→∃ (sa:Bool) (Aa:Option Addr) (na ca:Nat) (ta:Bool) (Ba:Option Addr) (ma da:Nat) (sb:Bool) (Ab:Option Addr) (nb cb:Nat) (tb:Bool) (Bb:Option Addr) (mb db:Nat),cs[k*8]?=some (.bool sa)∧cs[k*8+1]?=some (.slice Aa na ca)∧cs[k*8+2]?=some (.bool ta)∧cs[k*8+3]?=some (.slice Ba ma da)∧cs[k*8+4]?=some (.bool sb)∧cs[k*8+5]?=some (.slice Ab nb cb)∧cs[k*8+6]?=some (.bool tb)∧cs[k*8+7]?=some (.slice Bb mb db)∧PF w sa Aa na ca ta Ba ma da x.1 x.2.1∧PF w sb Ab nb cb tb Bb mb db x.2.2.1 x.2.2.2∧Fr x.1 x.2.1∧Fr x.2.2.1 x.2.2.2
theorem Pl.new {w w':World} {cs:List Value} {L:List Pt4} (h:Pl w cs L) (hb:Below w.heap.size w w'):Pl w' cs L:=by
 intro k x hk
 obtain ⟨sa,Aa,na,ca,ta,Ba,ma,da,sb,Ab,nb,cb,tb,Bb,mb,db,h0,h1,h2,h3,h4,h5,h6,h7,p1,p2,f1,f2⟩:=h k x hk
 exact ⟨sa,Aa,na,ca,ta,Ba,ma,da,sb,Ab,nb,cb,tb,Bb,mb,db,h0,h1,h2,h3,h4,h5,h6,h7,PF.new p1 hb,PF.new p2 hb,f1,f2⟩
def pcP (a b:Pt4):Int:=pcV a.1 a.2.1 a.2.2.1 a.2.2.2 b.1 b.2.1 b.2.2.1 b.2.2.2
def stL (f:Int→Bool) (m x:Pt4):Pt4:=if f (pcP x m)=true then x else m
def lsL (f:Int→Bool):List Pt4→Pt4
 | []=>(0,1,0,1)
 | a :: r=>r.foldl (stL f) a
def ltB (z:Int):Bool:=decide (z < 0)
def gtB (z:Int):Bool:=decide (0 < z)
theorem lsL_succ {f:Int→Bool} {L:List Pt4} {i:Nat} {x:Pt4} (h1:1≤i) (h:L[i]?=some x):lsL f (L.take (i+1))=stL f (lsL f (L.take i)) x:=by
 cases L with
 | nil=>cases h
 | cons a r =>
  obtain ⟨j,rfl⟩:∃ j,i=j+1:=⟨i - 1,by omega⟩
  rw [List.getElem?_cons_succ] at h
  rw [List.take_succ_cons,List.take_succ_cons]
  show (List.take (j+1) r).foldl _ a=stL f ((List.take j r).foldl _ a) x
  rw [List.take_add_one,h]
  simp [List.foldl_append]
theorem lsL_one {f:Int→Bool} {L:List Pt4} {x:Pt4} (h:L[0]?=some x):lsL f (L.take 1)=x:=by
 cases L with
 | nil=>cases h
 | cons a r=>injection h
theorem some4 {L:List Pt4} {i:Nat} (h:i < L.length):∃ p q u v,L[i]?=some (p,q,u,v):=⟨L[i].1,L[i].2.1,L[i].2.2.1,L[i].2.2.2,by rw [List.getElem?_eq_getElem h]⟩
set_option maxRecDepth 100000 in
set_option maxHeartbeats 12800000 in
theorem minf_any {okv:Value→Bool} (LL:List Pt4) (CS:List Value) (g n cap base:Nat) (w:World) (ho:OwnR okv w base 37 8 (.slice (some ⟨g,0,none⟩) n cap) n CS) (hp:Pl w CS LL) (hn:1≤n) (hm:n≤1000000) (hl:LL.length=n) :
  Calls Tryz.prog 108 #[.slice (some ⟨g,0,none⟩) n cap,.func (.func 34) #[] #[]] w (RetTw (lsL ltB LL).1 (lsL ltB LL).2.1 (lsL ltB LL).2.2.1 (lsL ltB LL).2.2.2 w):=by
 have HO:=hJ ho
 have cN:=hJ hp
 have cO:=hJ hl
 obtain ⟨pz,qz,uz,vz,hz⟩:=some4 (L:=LL) (i:=0) (by omega)
 have HZ:=hJ hz
 have hlt:((n:Int) < 1)=False:=by simp; omega
 clear ho hp hz
 obtain ⟨x1,bP⟩:=nmz (w.alloc (.cells #[.bool false,.slice none 0 0,.bool false,.slice none 0 0,.bool false,.slice none 0 0,.bool false,.slice none 0 0] 37))
 have bQ:=hJ (show Below w.heap.size w x1 by rw [←bP]; exact ((Below.refl _ _).alloc (Nat.le_refl _) _))
 have cP:=hJ (show BX 37 x1 w.heap.size #[.bool false,.slice none 0 0,.bool false,.slice none 0 0,.bool false,.slice none 0 0,.bool false,.slice none 0 0] by rw [←bP]; exact (BX.at rfl))
 have cQ:=hJ (show w.heap.size≤w.heap.size by omega)
 have cH:=hJ (Pl.new cN.out bQ.out)
 obtain ⟨sza,Aza,nza,cza,tza,Bza,mza,dza,szb,Azb,nzb,czb,tzb,Bzb,mzb,dzb,h0,h1,h2,h3,h4,h5,h6,h7,h8,h9,h10,h11⟩:=cH.out 0 _ HZ.out
 try dsimp only at h8 h9 h10 h11
 have cR:=hJ h0
 have cS:=hJ h1
 have cT:=hJ h2
 have cU:=hJ h3
 have cV:=hJ h4
 have cW:=hJ h5
 have cX:=hJ h6
 have cY:=hJ h7
 have cZ:=hJ h8
 have dA:=hJ h9
 have dB:=hJ h10
 have dD:=hJ h11
 clear h0 h1 h2 h3 h4 h5 h6 h7 h8 h9 h10 h11
 have bA:=hJ (OwnR.new HO.out bQ.out)
 have dE:=bA.out.at (0*8) cR.out
 have dG:=bA.out.at (0*8+1) cS.out
 have dH:=bA.out.at (0*8+2) cT.out
 have dI:=bA.out.at (0*8+3) cU.out
 have dJ:=bA.out.at (0*8+4) cV.out
 have dK:=bA.out.at (0*8+5) cW.out
 have dL:=bA.out.at (0*8+6) cX.out
 have dM:=bA.out.at (0*8+7) cY.out
 obtain ⟨x10,bR⟩:=nmz (x1.alloc (.cells #[.bool sza,.slice Aza nza cza,.bool tza,.slice Bza mza dza,.bool szb,.slice Azb nzb czb,.bool tzb,.slice Bzb mzb dzb] 37))
 have bS:=hJ (show Below x1.heap.size x1 x10 by rw [←bR]; exact ((Below.refl _ _).alloc (Nat.le_refl _) _))
 have dN:=hJ (show BX 37 x10 x1.heap.size #[.bool sza,.slice Aza nza cza,.bool tza,.slice Bza mza dza,.bool szb,.slice Azb nzb czb,.bool tzb,.slice Bzb mzb dzb] by rw [←bR]; exact (BX.at rfl))
 have dO:=hJ (show x1.heap.size≤x1.heap.size by omega)
 have dP:=hJ (PF.new cZ.out bS.out)
 have dQ:=hJ (PF.new dA.out bS.out)
 go_enter Tryz.func108,Tryz.ntmps108
 go_wp2_with fail
 clear bP dE dG dH dI dJ dK dL dM bR
 go_loopw [6] (fun tv wr=>∃ (i:Nat) (aH:Bool) (aI:Option Addr) (aJ:Nat) (aK:Nat) (aL:Bool) (aM:Option Addr) (aO:Nat) (aR:Nat) (aS:Bool) (aT:Option Addr) (aU:Nat) (aV:Nat) (aW:Bool) (aX:Option Addr) (aY:Nat) (aZ:Nat) (p11:Int) (q11:Int) (u11:Int) (v11:Int),i≤n∧tv=.int .i64 (i:Int)∧BX 37 wr x1.heap.size #[.bool aH,.slice aI aJ aK,.bool aL,.slice aM aO aR,.bool aS,.slice aT aU aV,.bool aW,.slice aX aY aZ]∧PF wr aH aI aJ aK aL aM aO aR p11 q11∧PF wr aS aT aU aV aW aX aY aZ u11 v11∧Hid (lsL ltB (LL.take i)=(p11,q11,u11,v11)∧Fr p11 q11∧Fr u11 v11∧1≤i)∧Below x1.heap.size x1 wr) (fun tv _=>n - (intOf tv).toNat)
 case atStart=>exact ⟨1,sza,Aza,nza,cza,tza,Bza,mza,dza,szb,Azb,nzb,czb,tzb,Bzb,mzb,dzb,pz,qz,uz,vz,by omega,rfl,dN.out,dP.out,dQ.out,hJ (⟨lsL_one HZ.out,dB.out,dD.out,Nat.le_refl _⟩),bS.out⟩
 case round =>
  obtain ⟨i11,aH,aI,aJ,aK,aL,aM,aO,aR,aS,aT,aU,aV,aW,aX,aY,aZ,p11,q11,u11,v11,hi,rfl,hz11_0,hz11_1,hz11_2,aA,hbel⟩:=hrel
  obtain ⟨wl11,rfl⟩:∃ W:World,W=wr:=⟨_,rfl⟩
  have bC:=hJ hbel
  have aC:=hJ hz11_0
  have bK:=hJ hz11_1
  have bL:=hJ hz11_2
  clear hbel hz11_0 hz11_1 hz11_2
  have dR:=hJ (bt bQ.out bC.out)
  rcases (show i11 < n∨i11=n by omega) with hlt | hlt
  ·have hli:(i11:Int) < (n:Int):=by omega
   obtain ⟨px,qx,ux,vx,hx⟩:=some4 (L:=LL) (i:=i11) (by omega)
   have HX:=hJ hx
   have cI:=hJ (show I6 ((i11:Int)+1) by unfold I6; omega)
   clear hx
   have dS:=hJ (Pl.new cH.out bC.out)
   obtain ⟨sxa,Axa,nxa,cxa,txa,Bxa,mxa,dxa,sxb,Axb,nxb,cxb,txb,Bxb,mxb,dxb,h0,h1,h2,h3,h4,h5,h6,h7,h8,h9,h10,h11⟩:=dS.out i11 _ HX.out
   try dsimp only at h8 h9 h10 h11
   have bT:=hJ h0
   have bU:=hJ h1
   have bV:=hJ h2
   have bW:=hJ h3
   have bX:=hJ h4
   have bY:=hJ h5
   have bZ:=hJ h6
   have cA:=hJ h7
   have cB:=hJ h8
   have cC:=hJ h9
   have bD:=hJ h10
   have bE:=hJ h11
   clear h0 h1 h2 h3 h4 h5 h6 h7 h8 h9 h10 h11
   obtain ⟨cm,hcm⟩:=nmz (pcV px qx ux vx p11 q11 u11 v11)
   have bM:=hJ hcm
   clear hcm
   by_cases hc:cm < 0
   ·have hcz:decide (cm < 0)=true:=decide_eq_true hc
    have cD:=hJ (show decide (cm < 0)=true from hcz)
    clear hc
    have aG:=hJ (OwnR.new bA.out bC.out)
    have cJ:Hid (∀ w',Below wl11.heap.size wl11 w'→(fun w':World=>w'.cell? ⟨g,i11*8,none⟩=some (.bool sxa)∧w'.cell? ⟨g,i11*8+1,none⟩=some (.slice Axa nxa cxa)∧w'.cell? ⟨g,i11*8+2,none⟩=some (.bool txa)∧w'.cell? ⟨g,i11*8+3,none⟩=some (.slice Bxa mxa dxa)∧w'.cell? ⟨g,i11*8+4,none⟩=some (.bool sxb)∧w'.cell? ⟨g,i11*8+5,none⟩=some (.slice Axb nxb cxb)∧w'.cell? ⟨g,i11*8+6,none⟩=some (.bool txb)∧w'.cell? ⟨g,i11*8+7,none⟩=some (.slice Bxb mxb dxb)∧w'.cell? ⟨x1.heap.size,0,none⟩=some (.bool aH)∧w'.cell? ⟨x1.heap.size,1,none⟩=some (.slice aI aJ aK)∧w'.cell? ⟨x1.heap.size,2,none⟩=some (.bool aL)∧w'.cell? ⟨x1.heap.size,3,none⟩=some (.slice aM aO aR)∧w'.cell? ⟨x1.heap.size,4,none⟩=some (.bool aS)∧w'.cell? ⟨x1.heap.size,5,none⟩=some (.slice aT aU aV)∧w'.cell? ⟨x1.heap.size,6,none⟩=some (.bool aW)∧w'.cell? ⟨x1.heap.size,7,none⟩=some (.slice aX aY aZ)∧Below wl11.heap.size wl11 w') w'):=hJ (fun w' hb=>⟨(OwnR.new aG.out hb).at (i11*8) bT.out,(OwnR.new aG.out hb).at (i11*8+1) bU.out,(OwnR.new aG.out hb).at (i11*8+2) bV.out,(OwnR.new aG.out hb).at (i11*8+3) bW.out,(OwnR.new aG.out hb).at (i11*8+4) bX.out,(OwnR.new aG.out hb).at (i11*8+5) bY.out,(OwnR.new aG.out hb).at (i11*8+6) bZ.out,(OwnR.new aG.out hb).at (i11*8+7) cA.out,(BX.new aC.out hb).cell 0 rfl,(BX.new aC.out hb).cell 1 rfl,(BX.new aC.out hb).cell 2 rfl,(BX.new aC.out hb).cell 3 rfl,(BX.new aC.out hb).cell 4 rfl,(BX.new aC.out hb).cell 5 rfl,(BX.new aC.out hb).cell 6 rfl,(BX.new aC.out hb).cell 7 rfl,hb⟩)
    go_wp2_with fail
    obtain ⟨v12,hv12⟩:=nmz (World.drew wl11)
    have bG:=hJ (show Below wl11.heap.size wl11 v12 by rw [←hv12]; exact (Below.refl _ _).drew)
    refine whd cJ hv12 (fun hHeld=>?_)
    clear hv12
    refine tq 0 ?_
    refine tq 1 ?_
    refine tq 2 ?_
    refine tq 3 ?_
    refine tq 4 ?_
    refine tq 5 ?_
    try simp only [PT]
    refine ryy [6] ?_
    refine .cons rfl (fun K hK=>?_) .nil
    go_simp
    go_at_call 34
    refine (ptcompare_any px qx ux vx p11 q11 u11 v11 sxa Axa nxa cxa txa Bxa mxa dxa sxb Axb nxb cxb txb Bxb mxb dxb aH aI aJ aK aL aM aO aR aS aT aU aV aW aX aY aZ v12 (PF.new cB.out bG.out) (PF.new cC.out bG.out) (PF.new bK.out bG.out) (PF.new bL.out bG.out) ⟨⟨bD.out.1.1,bD.out.2.1,bD.out.2.2⟩,⟨bE.out.1.1,bE.out.2.1,bE.out.2.2⟩,⟨aA.out.2.1.1.1,aA.out.2.1.2.1,aA.out.2.1.2.2⟩,⟨aA.out.2.2.1.1.1,aA.out.2.2.1.2.1,aA.out.2.2.1.2.2⟩⟩).mono ?_
    rw [bM.out]
    rintro e v13 ⟨rfl,hb⟩
    have dT:=hJ hb
    clear hb
    go_wp2_with fail
    have bF:=hJ (bt bG.out dT.out)
    clear hHeld
    refine hK.out _ _ (cJ.out _ bF.out) (fun hHeld=>?_)
    clear hK K
    refine tq 7 ?_
    try simp only [PT]
    refine wpAnyH_done (by kernel_rfl) ?_ _
    clear hHeld
    have bB:=hJ (OwnR.new aG.out bF.out)
    have dU:=bB.out.at (i11*8) bT.out
    have dW:=bB.out.at (i11*8+1) bU.out
    have dX:=bB.out.at (i11*8+2) bV.out
    have dY:=bB.out.at (i11*8+3) bW.out
    have dZ:=bB.out.at (i11*8+4) bX.out
    have eA:=bB.out.at (i11*8+5) bY.out
    have eB:=bB.out.at (i11*8+6) bZ.out
    have eC:=bB.out.at (i11*8+7) cA.out
    have cE:IntKind.i64.wrap ((i11:Int)+1)=(i11:Int)+1:=i6_wrap cI.out
    have aB:=hJ (BX.new aC.out bF.out)
    have eD:=aB.out.frozen 0
    have eE:=aB.out.cell 0 rfl
    have eF:=aB.out.frozen 1
    have eG:=aB.out.cell 1 rfl
    have eH:=aB.out.frozen 2
    have eI:=aB.out.cell 2 rfl
    have eJ:=aB.out.frozen 3
    have eK:=aB.out.cell 3 rfl
    have eL:=aB.out.frozen 4
    have eM:=aB.out.cell 4 rfl
    have eN:=aB.out.frozen 5
    have eO:=aB.out.cell 5 rfl
    have eP:=aB.out.frozen 6
    have eQ:=aB.out.cell 6 rfl
    have eR:=aB.out.frozen 7
    have eS:=aB.out.cell 7 rfl
    obtain ⟨x22,cK⟩:=nmz (World.setCell (World.setCell (World.setCell (World.setCell (World.setCell (World.setCell (World.setCell (World.setCell v13 ⟨x1.heap.size,0,none⟩ (.bool sxa)) ⟨x1.heap.size,1,none⟩ (.slice Axa nxa cxa)) ⟨x1.heap.size,2,none⟩ (.bool txa)) ⟨x1.heap.size,3,none⟩ (.slice Bxa mxa dxa)) ⟨x1.heap.size,4,none⟩ (.bool sxb)) ⟨x1.heap.size,5,none⟩ (.slice Axb nxb cxb)) ⟨x1.heap.size,6,none⟩ (.bool txb)) ⟨x1.heap.size,7,none⟩ (.slice Bxb mxb dxb))
    have bN:=hJ (show sto v13 x1.heap.size 0 [.bool sxa,.slice Axa nxa cxa,.bool txa,.slice Bxa mxa dxa,.bool sxb,.slice Axb nxb cxb,.bool txb,.slice Bxb mxb dxb]=x22 from cK)
    have eT:=hJ (show BX 37 x22 x1.heap.size #[.bool sxa,.slice Axa nxa cxa,.bool txa,.slice Bxa mxa dxa,.bool sxb,.slice Axb nxb cxb,.bool txb,.slice Bxb mxb dxb] by rw [←bN.out]; exact BX.put aB.out _ _)
    have eU:=hJ (PF.new cB.out bF.out)
    have eV:=hJ (show PF x22 sxa Axa nxa cxa txa Bxa mxa dxa px qx by rw [←bN.out]; exact PF.sto eU.out aB.out rfl _ _)
    have eW:=hJ (PF.new cC.out bF.out)
    have eX:=hJ (show PF x22 sxb Axb nxb cxb txb Bxb mxb dxb ux vx by rw [←bN.out]; exact PF.sto eW.out aB.out rfl _ _)
    have eY:=hJ (show Below x1.heap.size x1 x22 by rw [←bN.out]; exact below_sto (bt bC.out bF.out) dO.out _ _)
    go_wp2_with fail
    clear dU dW dX dY dZ eA eB eC cE eD eE eF eG eH eI eJ eK eL eM eN eO eP eQ eR eS cK
    go_roundw
    case rel=>exact ⟨i11+1,sxa,Axa,nxa,cxa,txa,Bxa,mxa,dxa,sxb,Axb,nxb,cxb,txb,Bxb,mxb,dxb,px,qx,ux,vx,by omega,by go_num,eT.out,eV.out,eX.out,hJ (⟨by rw [lsL_succ aA.out.2.2.2 HX.out,aA.out.1]; unfold stL pcP ltB; dsimp only; rw [bM.out,if_pos cD.out],bD.out,bE.out,by have:=aA.out.2.2.2; omega⟩),eY.out⟩
    case measure=>simp [intOf] <;> omega
   have hcz:decide (cm < 0)=false:=decide_eq_false hc
   have cD:=hJ (show ¬ decide (cm < 0)=true by rw [hcz]; decide)
   clear hc
   have aG:=hJ (OwnR.new bA.out bC.out)
   have cL:Hid (∀ w',Below wl11.heap.size wl11 w'→(fun w':World=>w'.cell? ⟨g,i11*8,none⟩=some (.bool sxa)∧w'.cell? ⟨g,i11*8+1,none⟩=some (.slice Axa nxa cxa)∧w'.cell? ⟨g,i11*8+2,none⟩=some (.bool txa)∧w'.cell? ⟨g,i11*8+3,none⟩=some (.slice Bxa mxa dxa)∧w'.cell? ⟨g,i11*8+4,none⟩=some (.bool sxb)∧w'.cell? ⟨g,i11*8+5,none⟩=some (.slice Axb nxb cxb)∧w'.cell? ⟨g,i11*8+6,none⟩=some (.bool txb)∧w'.cell? ⟨g,i11*8+7,none⟩=some (.slice Bxb mxb dxb)∧w'.cell? ⟨x1.heap.size,0,none⟩=some (.bool aH)∧w'.cell? ⟨x1.heap.size,1,none⟩=some (.slice aI aJ aK)∧w'.cell? ⟨x1.heap.size,2,none⟩=some (.bool aL)∧w'.cell? ⟨x1.heap.size,3,none⟩=some (.slice aM aO aR)∧w'.cell? ⟨x1.heap.size,4,none⟩=some (.bool aS)∧w'.cell? ⟨x1.heap.size,5,none⟩=some (.slice aT aU aV)∧w'.cell? ⟨x1.heap.size,6,none⟩=some (.bool aW)∧w'.cell? ⟨x1.heap.size,7,none⟩=some (.slice aX aY aZ)∧Below wl11.heap.size wl11 w') w'):=hJ (fun w' hb=>⟨(OwnR.new aG.out hb).at (i11*8) bT.out,(OwnR.new aG.out hb).at (i11*8+1) bU.out,(OwnR.new aG.out hb).at (i11*8+2) bV.out,(OwnR.new aG.out hb).at (i11*8+3) bW.out,(OwnR.new aG.out hb).at (i11*8+4) bX.out,(OwnR.new aG.out hb).at (i11*8+5) bY.out,(OwnR.new aG.out hb).at (i11*8+6) bZ.out,(OwnR.new aG.out hb).at (i11*8+7) cA.out,(BX.new aC.out hb).cell 0 rfl,(BX.new aC.out hb).cell 1 rfl,(BX.new aC.out hb).cell 2 rfl,(BX.new aC.out hb).cell 3 rfl,(BX.new aC.out hb).cell 4 rfl,(BX.new aC.out hb).cell 5 rfl,(BX.new aC.out hb).cell 6 rfl,(BX.new aC.out hb).cell 7 rfl,hb⟩)
   go_wp2_with fail
   obtain ⟨v23,hv23⟩:=nmz (World.drew wl11)
   have bH:=hJ (show Below wl11.heap.size wl11 v23 by rw [←hv23]; exact (Below.refl _ _).drew)
   refine whd cL hv23 (fun hHeld=>?_)
   clear hv23
   refine tq 0 ?_
   refine tq 1 ?_
   refine tq 2 ?_
   refine tq 3 ?_
   refine tq 4 ?_
   refine tq 5 ?_
   try simp only [PT]
   refine ryy [6] ?_
   refine .cons rfl (fun K hK=>?_) .nil
   go_simp
   go_at_call 34
   refine (ptcompare_any px qx ux vx p11 q11 u11 v11 sxa Axa nxa cxa txa Bxa mxa dxa sxb Axb nxb cxb txb Bxb mxb dxb aH aI aJ aK aL aM aO aR aS aT aU aV aW aX aY aZ v23 (PF.new cB.out bH.out) (PF.new cC.out bH.out) (PF.new bK.out bH.out) (PF.new bL.out bH.out) ⟨⟨bD.out.1.1,bD.out.2.1,bD.out.2.2⟩,⟨bE.out.1.1,bE.out.2.1,bE.out.2.2⟩,⟨aA.out.2.1.1.1,aA.out.2.1.2.1,aA.out.2.1.2.2⟩,⟨aA.out.2.2.1.1.1,aA.out.2.2.1.2.1,aA.out.2.2.1.2.2⟩⟩).mono ?_
   rw [bM.out]
   rintro e v24 ⟨rfl,hb⟩
   have eZ:=hJ hb
   clear hb
   go_wp2_with fail
   have bJ:=hJ (bt bH.out eZ.out)
   clear hHeld
   refine hK.out _ _ (cL.out _ bJ.out) (fun hHeld=>?_)
   clear hK K
   refine tq 7 ?_
   try simp only [PT]
   refine wpAnyH_done (by kernel_rfl) ?_ _
   clear hHeld
   have cE:IntKind.i64.wrap ((i11:Int)+1)=(i11:Int)+1:=i6_wrap cI.out
   have aB:=hJ (BX.new aC.out bJ.out)
   have cF:=hJ (PF.new bK.out bJ.out)
   have cG:=hJ (PF.new bL.out bJ.out)
   have fA:=hJ (bt bC.out bJ.out)
   go_wp2_with fail
   clear cE
   go_roundw
   case rel=>exact ⟨i11+1,aH,aI,aJ,aK,aL,aM,aO,aR,aS,aT,aU,aV,aW,aX,aY,aZ,p11,q11,u11,v11,by omega,by go_num,aB.out,cF.out,cG.out,hJ (⟨by rw [lsL_succ aA.out.2.2.2 HX.out,aA.out.1]; unfold stL pcP ltB; dsimp only; rw [bM.out,if_neg cD.out],aA.out.2.1,aA.out.2.2.1,by have:=aA.out.2.2.2; omega⟩),fA.out⟩
   case measure=>simp [intOf] <;> omega
  ·have hli:¬ (i11:Int) < (n:Int):=by omega
   have fB:=hJ hlt
   obtain ⟨fC,fD,fE,fF,fG,fH,fI,fJ⟩:=aC.out.q8 0 1 2 3 4 5 6 7
   have aD:=hJ (BX.new cP.out bC.out)
   have fK:=aD.out.frozen 0
   have fL:=aD.out.cell 0 rfl
   have fM:=aD.out.frozen 1
   have fN:=aD.out.cell 1 rfl
   have fO:=aD.out.frozen 2
   have fP:=aD.out.cell 2 rfl
   have fQ:=aD.out.frozen 3
   have fR:=aD.out.cell 3 rfl
   have fS:=aD.out.frozen 4
   have fT:=aD.out.cell 4 rfl
   have fU:=aD.out.frozen 5
   have fV:=aD.out.cell 5 rfl
   have fW:=aD.out.frozen 6
   have fX:=aD.out.cell 6 rfl
   have fY:=aD.out.frozen 7
   have fZ:=aD.out.cell 7 rfl
   obtain ⟨x33,cM⟩:=nmz (World.setCell (World.setCell (World.setCell (World.setCell (World.setCell (World.setCell (World.setCell (World.setCell wl11 ⟨w.heap.size,0,none⟩ (.bool aH)) ⟨w.heap.size,1,none⟩ (.slice aI aJ aK)) ⟨w.heap.size,2,none⟩ (.bool aL)) ⟨w.heap.size,3,none⟩ (.slice aM aO aR)) ⟨w.heap.size,4,none⟩ (.bool aS)) ⟨w.heap.size,5,none⟩ (.slice aT aU aV)) ⟨w.heap.size,6,none⟩ (.bool aW)) ⟨w.heap.size,7,none⟩ (.slice aX aY aZ))
   have bO:=hJ (show sto wl11 w.heap.size 0 [.bool aH,.slice aI aJ aK,.bool aL,.slice aM aO aR,.bool aS,.slice aT aU aV,.bool aW,.slice aX aY aZ]=x33 from cM)
   have gA:=hJ (show BX 37 x33 w.heap.size #[.bool aH,.slice aI aJ aK,.bool aL,.slice aM aO aR,.bool aS,.slice aT aU aV,.bool aW,.slice aX aY aZ] by rw [←bO.out]; exact BX.put aD.out _ _)
   have gB:=hJ (show Below w.heap.size w x33 by rw [←bO.out]; exact below_sto dR.out cQ.out _ _)
   have cF:=hJ (show PF x33 aH aI aJ aK aL aM aO aR p11 q11 by rw [←bO.out]; exact PF.sto bK.out aD.out rfl _ _)
   have cG:=hJ (show PF x33 aS aT aU aV aW aX aY aZ u11 v11 by rw [←bO.out]; exact PF.sto bL.out aD.out rfl _ _)
   go_wp2
   clear fC fD fE fF fG fH fI fJ fK fL fM fN fO fP fQ fR fS fT fU fV fW fX fY fZ cM
   exact bodyPost_ret (results_cell_row rfl _ _ _ _ _ _ _ rfl gA.out Tryz.underlying37 rfl TP_size) rfl (by rw [show lsL ltB LL=(p11,q11,u11,v11) from by rw [←aA.out.1,fB.out,←cO.out,List.take_length]]; show RetTw p11 q11 u11 v11 w _ _; exact ⟨aH,aI,aJ,aK,aL,aM,aO,aR,aS,aT,aU,aV,aW,aX,aY,aZ,rfl,cF.out,cG.out,gB.out⟩)
set_option maxRecDepth 100000 in
set_option maxHeartbeats 12800000 in
theorem maxf_any {okv:Value→Bool} (LL:List Pt4) (CS:List Value) (g n cap base:Nat) (w:World) (ho:OwnR okv w base 37 8 (.slice (some ⟨g,0,none⟩) n cap) n CS) (hp:Pl w CS LL) (hn:1≤n) (hm:n≤1000000) (hl:LL.length=n) :
  Calls Tryz.prog 109 #[.slice (some ⟨g,0,none⟩) n cap,.func (.func 34) #[] #[]] w (RetTw (lsL gtB LL).1 (lsL gtB LL).2.1 (lsL gtB LL).2.2.1 (lsL gtB LL).2.2.2 w):=by
 have HO:=hJ ho
 have cN:=hJ hp
 have cO:=hJ hl
 obtain ⟨pz,qz,uz,vz,hz⟩:=some4 (L:=LL) (i:=0) (by omega)
 have HZ:=hJ hz
 have hlt:((n:Int) < 1)=False:=by simp; omega
 clear ho hp hz
 obtain ⟨x1,bP⟩:=nmz (w.alloc (.cells #[.bool false,.slice none 0 0,.bool false,.slice none 0 0,.bool false,.slice none 0 0,.bool false,.slice none 0 0] 37))
 have bQ:=hJ (show Below w.heap.size w x1 by rw [←bP]; exact ((Below.refl _ _).alloc (Nat.le_refl _) _))
 have cP:=hJ (show BX 37 x1 w.heap.size #[.bool false,.slice none 0 0,.bool false,.slice none 0 0,.bool false,.slice none 0 0,.bool false,.slice none 0 0] by rw [←bP]; exact (BX.at rfl))
 have cQ:=hJ (show w.heap.size≤w.heap.size by omega)
 have cH:=hJ (Pl.new cN.out bQ.out)
 obtain ⟨sza,Aza,nza,cza,tza,Bza,mza,dza,szb,Azb,nzb,czb,tzb,Bzb,mzb,dzb,h0,h1,h2,h3,h4,h5,h6,h7,h8,h9,h10,h11⟩:=cH.out 0 _ HZ.out
 try dsimp only at h8 h9 h10 h11
 have cR:=hJ h0
 have cS:=hJ h1
 have cT:=hJ h2
 have cU:=hJ h3
 have cV:=hJ h4
 have cW:=hJ h5
 have cX:=hJ h6
 have cY:=hJ h7
 have cZ:=hJ h8
 have dA:=hJ h9
 have dB:=hJ h10
 have dD:=hJ h11
 clear h0 h1 h2 h3 h4 h5 h6 h7 h8 h9 h10 h11
 have bA:=hJ (OwnR.new HO.out bQ.out)
 have dE:=bA.out.at (0*8) cR.out
 have dG:=bA.out.at (0*8+1) cS.out
 have dH:=bA.out.at (0*8+2) cT.out
 have dI:=bA.out.at (0*8+3) cU.out
 have dJ:=bA.out.at (0*8+4) cV.out
 have dK:=bA.out.at (0*8+5) cW.out
 have dL:=bA.out.at (0*8+6) cX.out
 have dM:=bA.out.at (0*8+7) cY.out
 obtain ⟨x10,bR⟩:=nmz (x1.alloc (.cells #[.bool sza,.slice Aza nza cza,.bool tza,.slice Bza mza dza,.bool szb,.slice Azb nzb czb,.bool tzb,.slice Bzb mzb dzb] 37))
 have bS:=hJ (show Below x1.heap.size x1 x10 by rw [←bR]; exact ((Below.refl _ _).alloc (Nat.le_refl _) _))
 have dN:=hJ (show BX 37 x10 x1.heap.size #[.bool sza,.slice Aza nza cza,.bool tza,.slice Bza mza dza,.bool szb,.slice Azb nzb czb,.bool tzb,.slice Bzb mzb dzb] by rw [←bR]; exact (BX.at rfl))
 have dO:=hJ (show x1.heap.size≤x1.heap.size by omega)
 have dP:=hJ (PF.new cZ.out bS.out)
 have dQ:=hJ (PF.new dA.out bS.out)
 go_enter Tryz.func109,Tryz.ntmps109
 go_wp2_with fail
 clear bP dE dG dH dI dJ dK dL dM bR
 go_loopw [6] (fun tv wr=>∃ (i:Nat) (aH:Bool) (aI:Option Addr) (aJ:Nat) (aK:Nat) (aL:Bool) (aM:Option Addr) (aO:Nat) (aR:Nat) (aS:Bool) (aT:Option Addr) (aU:Nat) (aV:Nat) (aW:Bool) (aX:Option Addr) (aY:Nat) (aZ:Nat) (p11:Int) (q11:Int) (u11:Int) (v11:Int),i≤n∧tv=.int .i64 (i:Int)∧BX 37 wr x1.heap.size #[.bool aH,.slice aI aJ aK,.bool aL,.slice aM aO aR,.bool aS,.slice aT aU aV,.bool aW,.slice aX aY aZ]∧PF wr aH aI aJ aK aL aM aO aR p11 q11∧PF wr aS aT aU aV aW aX aY aZ u11 v11∧Hid (lsL gtB (LL.take i)=(p11,q11,u11,v11)∧Fr p11 q11∧Fr u11 v11∧1≤i)∧Below x1.heap.size x1 wr) (fun tv _=>n - (intOf tv).toNat)
 case atStart=>exact ⟨1,sza,Aza,nza,cza,tza,Bza,mza,dza,szb,Azb,nzb,czb,tzb,Bzb,mzb,dzb,pz,qz,uz,vz,by omega,rfl,dN.out,dP.out,dQ.out,hJ (⟨lsL_one HZ.out,dB.out,dD.out,Nat.le_refl _⟩),bS.out⟩
 case round =>
  obtain ⟨i11,aH,aI,aJ,aK,aL,aM,aO,aR,aS,aT,aU,aV,aW,aX,aY,aZ,p11,q11,u11,v11,hi,rfl,hz11_0,hz11_1,hz11_2,aA,hbel⟩:=hrel
  obtain ⟨wl11,rfl⟩:∃ W:World,W=wr:=⟨_,rfl⟩
  have bC:=hJ hbel
  have aC:=hJ hz11_0
  have bK:=hJ hz11_1
  have bL:=hJ hz11_2
  clear hbel hz11_0 hz11_1 hz11_2
  have dR:=hJ (bt bQ.out bC.out)
  rcases (show i11 < n∨i11=n by omega) with hlt | hlt
  ·have hli:(i11:Int) < (n:Int):=by omega
   obtain ⟨px,qx,ux,vx,hx⟩:=some4 (L:=LL) (i:=i11) (by omega)
   have HX:=hJ hx
   have cI:=hJ (show I6 ((i11:Int)+1) by unfold I6; omega)
   clear hx
   have dS:=hJ (Pl.new cH.out bC.out)
   obtain ⟨sxa,Axa,nxa,cxa,txa,Bxa,mxa,dxa,sxb,Axb,nxb,cxb,txb,Bxb,mxb,dxb,h0,h1,h2,h3,h4,h5,h6,h7,h8,h9,h10,h11⟩:=dS.out i11 _ HX.out
   try dsimp only at h8 h9 h10 h11
   have bT:=hJ h0
   have bU:=hJ h1
   have bV:=hJ h2
   have bW:=hJ h3
   have bX:=hJ h4
   have bY:=hJ h5
   have bZ:=hJ h6
   have cA:=hJ h7
   have cB:=hJ h8
   have cC:=hJ h9
   have bD:=hJ h10
   have bE:=hJ h11
   clear h0 h1 h2 h3 h4 h5 h6 h7 h8 h9 h10 h11
   obtain ⟨cm,hcm⟩:=nmz (pcV px qx ux vx p11 q11 u11 v11)
   have bM:=hJ hcm
   clear hcm
   by_cases hc:0 < cm
   ·have hcz:decide (0 < cm)=true:=decide_eq_true hc
    have cD:=hJ (show decide (0 < cm)=true from hcz)
    clear hc
    have aG:=hJ (OwnR.new bA.out bC.out)
    have cJ:Hid (∀ w',Below wl11.heap.size wl11 w'→(fun w':World=>w'.cell? ⟨g,i11*8,none⟩=some (.bool sxa)∧w'.cell? ⟨g,i11*8+1,none⟩=some (.slice Axa nxa cxa)∧w'.cell? ⟨g,i11*8+2,none⟩=some (.bool txa)∧w'.cell? ⟨g,i11*8+3,none⟩=some (.slice Bxa mxa dxa)∧w'.cell? ⟨g,i11*8+4,none⟩=some (.bool sxb)∧w'.cell? ⟨g,i11*8+5,none⟩=some (.slice Axb nxb cxb)∧w'.cell? ⟨g,i11*8+6,none⟩=some (.bool txb)∧w'.cell? ⟨g,i11*8+7,none⟩=some (.slice Bxb mxb dxb)∧w'.cell? ⟨x1.heap.size,0,none⟩=some (.bool aH)∧w'.cell? ⟨x1.heap.size,1,none⟩=some (.slice aI aJ aK)∧w'.cell? ⟨x1.heap.size,2,none⟩=some (.bool aL)∧w'.cell? ⟨x1.heap.size,3,none⟩=some (.slice aM aO aR)∧w'.cell? ⟨x1.heap.size,4,none⟩=some (.bool aS)∧w'.cell? ⟨x1.heap.size,5,none⟩=some (.slice aT aU aV)∧w'.cell? ⟨x1.heap.size,6,none⟩=some (.bool aW)∧w'.cell? ⟨x1.heap.size,7,none⟩=some (.slice aX aY aZ)∧Below wl11.heap.size wl11 w') w'):=hJ (fun w' hb=>⟨(OwnR.new aG.out hb).at (i11*8) bT.out,(OwnR.new aG.out hb).at (i11*8+1) bU.out,(OwnR.new aG.out hb).at (i11*8+2) bV.out,(OwnR.new aG.out hb).at (i11*8+3) bW.out,(OwnR.new aG.out hb).at (i11*8+4) bX.out,(OwnR.new aG.out hb).at (i11*8+5) bY.out,(OwnR.new aG.out hb).at (i11*8+6) bZ.out,(OwnR.new aG.out hb).at (i11*8+7) cA.out,(BX.new aC.out hb).cell 0 rfl,(BX.new aC.out hb).cell 1 rfl,(BX.new aC.out hb).cell 2 rfl,(BX.new aC.out hb).cell 3 rfl,(BX.new aC.out hb).cell 4 rfl,(BX.new aC.out hb).cell 5 rfl,(BX.new aC.out hb).cell 6 rfl,(BX.new aC.out hb).cell 7 rfl,hb⟩)
    go_wp2_with fail
    obtain ⟨v12,hv12⟩:=nmz (World.drew wl11)
    have bG:=hJ (show Below wl11.heap.size wl11 v12 by rw [←hv12]; exact (Below.refl _ _).drew)
    refine whd cJ hv12 (fun hHeld=>?_)
    clear hv12
    refine tq 0 ?_
    refine tq 1 ?_
    refine tq 2 ?_
    refine tq 3 ?_
    refine tq 4 ?_
    refine tq 5 ?_
    try simp only [PT]
    refine ryy [6] ?_
    refine .cons rfl (fun K hK=>?_) .nil
    go_simp
    go_at_call 34
    refine (ptcompare_any px qx ux vx p11 q11 u11 v11 sxa Axa nxa cxa txa Bxa mxa dxa sxb Axb nxb cxb txb Bxb mxb dxb aH aI aJ aK aL aM aO aR aS aT aU aV aW aX aY aZ v12 (PF.new cB.out bG.out) (PF.new cC.out bG.out) (PF.new bK.out bG.out) (PF.new bL.out bG.out) ⟨⟨bD.out.1.1,bD.out.2.1,bD.out.2.2⟩,⟨bE.out.1.1,bE.out.2.1,bE.out.2.2⟩,⟨aA.out.2.1.1.1,aA.out.2.1.2.1,aA.out.2.1.2.2⟩,⟨aA.out.2.2.1.1.1,aA.out.2.2.1.2.1,aA.out.2.2.1.2.2⟩⟩).mono ?_
    rw [bM.out]
    rintro e v13 ⟨rfl,hb⟩
    have dT:=hJ hb
    clear hb
    go_wp2_with fail
    have bF:=hJ (bt bG.out dT.out)
    clear hHeld
    refine hK.out _ _ (cJ.out _ bF.out) (fun hHeld=>?_)
    clear hK K
    refine tq 7 ?_
    try simp only [PT]
    refine wpAnyH_done (by kernel_rfl) ?_ _
    clear hHeld
    have bB:=hJ (OwnR.new aG.out bF.out)
    have dU:=bB.out.at (i11*8) bT.out
    have dW:=bB.out.at (i11*8+1) bU.out
    have dX:=bB.out.at (i11*8+2) bV.out
    have dY:=bB.out.at (i11*8+3) bW.out
    have dZ:=bB.out.at (i11*8+4) bX.out
    have eA:=bB.out.at (i11*8+5) bY.out
    have eB:=bB.out.at (i11*8+6) bZ.out
    have eC:=bB.out.at (i11*8+7) cA.out
    have cE:IntKind.i64.wrap ((i11:Int)+1)=(i11:Int)+1:=i6_wrap cI.out
    have aB:=hJ (BX.new aC.out bF.out)
    have eD:=aB.out.frozen 0
    have eE:=aB.out.cell 0 rfl
    have eF:=aB.out.frozen 1
    have eG:=aB.out.cell 1 rfl
    have eH:=aB.out.frozen 2
    have eI:=aB.out.cell 2 rfl
    have eJ:=aB.out.frozen 3
    have eK:=aB.out.cell 3 rfl
    have eL:=aB.out.frozen 4
    have eM:=aB.out.cell 4 rfl
    have eN:=aB.out.frozen 5
    have eO:=aB.out.cell 5 rfl
    have eP:=aB.out.frozen 6
    have eQ:=aB.out.cell 6 rfl
    have eR:=aB.out.frozen 7
    have eS:=aB.out.cell 7 rfl
    obtain ⟨x22,cK⟩:=nmz (World.setCell (World.setCell (World.setCell (World.setCell (World.setCell (World.setCell (World.setCell (World.setCell v13 ⟨x1.heap.size,0,none⟩ (.bool sxa)) ⟨x1.heap.size,1,none⟩ (.slice Axa nxa cxa)) ⟨x1.heap.size,2,none⟩ (.bool txa)) ⟨x1.heap.size,3,none⟩ (.slice Bxa mxa dxa)) ⟨x1.heap.size,4,none⟩ (.bool sxb)) ⟨x1.heap.size,5,none⟩ (.slice Axb nxb cxb)) ⟨x1.heap.size,6,none⟩ (.bool txb)) ⟨x1.heap.size,7,none⟩ (.slice Bxb mxb dxb))
    have bN:=hJ (show sto v13 x1.heap.size 0 [.bool sxa,.slice Axa nxa cxa,.bool txa,.slice Bxa mxa dxa,.bool sxb,.slice Axb nxb cxb,.bool txb,.slice Bxb mxb dxb]=x22 from cK)
    have eT:=hJ (show BX 37 x22 x1.heap.size #[.bool sxa,.slice Axa nxa cxa,.bool txa,.slice Bxa mxa dxa,.bool sxb,.slice Axb nxb cxb,.bool txb,.slice Bxb mxb dxb] by rw [←bN.out]; exact BX.put aB.out _ _)
    have eU:=hJ (PF.new cB.out bF.out)
    have eV:=hJ (show PF x22 sxa Axa nxa cxa txa Bxa mxa dxa px qx by rw [←bN.out]; exact PF.sto eU.out aB.out rfl _ _)
    have eW:=hJ (PF.new cC.out bF.out)
    have eX:=hJ (show PF x22 sxb Axb nxb cxb txb Bxb mxb dxb ux vx by rw [←bN.out]; exact PF.sto eW.out aB.out rfl _ _)
    have eY:=hJ (show Below x1.heap.size x1 x22 by rw [←bN.out]; exact below_sto (bt bC.out bF.out) dO.out _ _)
    go_wp2_with fail
    clear dU dW dX dY dZ eA eB eC cE eD eE eF eG eH eI eJ eK eL eM eN eO eP eQ eR eS cK
    go_roundw
    case rel=>exact ⟨i11+1,sxa,Axa,nxa,cxa,txa,Bxa,mxa,dxa,sxb,Axb,nxb,cxb,txb,Bxb,mxb,dxb,px,qx,ux,vx,by omega,by go_num,eT.out,eV.out,eX.out,hJ (⟨by rw [lsL_succ aA.out.2.2.2 HX.out,aA.out.1]; unfold stL pcP gtB; dsimp only; rw [bM.out,if_pos cD.out],bD.out,bE.out,by have:=aA.out.2.2.2; omega⟩),eY.out⟩
    case measure=>simp [intOf] <;> omega
   have hcz:decide (0 < cm)=false:=decide_eq_false hc
   have cD:=hJ (show ¬ decide (0 < cm)=true by rw [hcz]; decide)
   clear hc
   have aG:=hJ (OwnR.new bA.out bC.out)
   have cL:Hid (∀ w',Below wl11.heap.size wl11 w'→(fun w':World=>w'.cell? ⟨g,i11*8,none⟩=some (.bool sxa)∧w'.cell? ⟨g,i11*8+1,none⟩=some (.slice Axa nxa cxa)∧w'.cell? ⟨g,i11*8+2,none⟩=some (.bool txa)∧w'.cell? ⟨g,i11*8+3,none⟩=some (.slice Bxa mxa dxa)∧w'.cell? ⟨g,i11*8+4,none⟩=some (.bool sxb)∧w'.cell? ⟨g,i11*8+5,none⟩=some (.slice Axb nxb cxb)∧w'.cell? ⟨g,i11*8+6,none⟩=some (.bool txb)∧w'.cell? ⟨g,i11*8+7,none⟩=some (.slice Bxb mxb dxb)∧w'.cell? ⟨x1.heap.size,0,none⟩=some (.bool aH)∧w'.cell? ⟨x1.heap.size,1,none⟩=some (.slice aI aJ aK)∧w'.cell? ⟨x1.heap.size,2,none⟩=some (.bool aL)∧w'.cell? ⟨x1.heap.size,3,none⟩=some (.slice aM aO aR)∧w'.cell? ⟨x1.heap.size,4,none⟩=some (.bool aS)∧w'.cell? ⟨x1.heap.size,5,none⟩=some (.slice aT aU aV)∧w'.cell? ⟨x1.heap.size,6,none⟩=some (.bool aW)∧w'.cell? ⟨x1.heap.size,7,none⟩=some (.slice aX aY aZ)∧Below wl11.heap.size wl11 w') w'):=hJ (fun w' hb=>⟨(OwnR.new aG.out hb).at (i11*8) bT.out,(OwnR.new aG.out hb).at (i11*8+1) bU.out,(OwnR.new aG.out hb).at (i11*8+2) bV.out,(OwnR.new aG.out hb).at (i11*8+3) bW.out,(OwnR.new aG.out hb).at (i11*8+4) bX.out,(OwnR.new aG.out hb).at (i11*8+5) bY.out,(OwnR.new aG.out hb).at (i11*8+6) bZ.out,(OwnR.new aG.out hb).at (i11*8+7) cA.out,(BX.new aC.out hb).cell 0 rfl,(BX.new aC.out hb).cell 1 rfl,(BX.new aC.out hb).cell 2 rfl,(BX.new aC.out hb).cell 3 rfl,(BX.new aC.out hb).cell 4 rfl,(BX.new aC.out hb).cell 5 rfl,(BX.new aC.out hb).cell 6 rfl,(BX.new aC.out hb).cell 7 rfl,hb⟩)
   go_wp2_with fail
   obtain ⟨v23,hv23⟩:=nmz (World.drew wl11)
   have bH:=hJ (show Below wl11.heap.size wl11 v23 by rw [←hv23]; exact (Below.refl _ _).drew)
   refine whd cL hv23 (fun hHeld=>?_)
   clear hv23
   refine tq 0 ?_
   refine tq 1 ?_
   refine tq 2 ?_
   refine tq 3 ?_
   refine tq 4 ?_
   refine tq 5 ?_
   try simp only [PT]
   refine ryy [6] ?_
   refine .cons rfl (fun K hK=>?_) .nil
   go_simp
   go_at_call 34
   refine (ptcompare_any px qx ux vx p11 q11 u11 v11 sxa Axa nxa cxa txa Bxa mxa dxa sxb Axb nxb cxb txb Bxb mxb dxb aH aI aJ aK aL aM aO aR aS aT aU aV aW aX aY aZ v23 (PF.new cB.out bH.out) (PF.new cC.out bH.out) (PF.new bK.out bH.out) (PF.new bL.out bH.out) ⟨⟨bD.out.1.1,bD.out.2.1,bD.out.2.2⟩,⟨bE.out.1.1,bE.out.2.1,bE.out.2.2⟩,⟨aA.out.2.1.1.1,aA.out.2.1.2.1,aA.out.2.1.2.2⟩,⟨aA.out.2.2.1.1.1,aA.out.2.2.1.2.1,aA.out.2.2.1.2.2⟩⟩).mono ?_
   rw [bM.out]
   rintro e v24 ⟨rfl,hb⟩
   have eZ:=hJ hb
   clear hb
   go_wp2_with fail
   have bJ:=hJ (bt bH.out eZ.out)
   clear hHeld
   refine hK.out _ _ (cL.out _ bJ.out) (fun hHeld=>?_)
   clear hK K
   refine tq 7 ?_
   try simp only [PT]
   refine wpAnyH_done (by kernel_rfl) ?_ _
   clear hHeld
   have cE:IntKind.i64.wrap ((i11:Int)+1)=(i11:Int)+1:=i6_wrap cI.out
   have aB:=hJ (BX.new aC.out bJ.out)
   have cF:=hJ (PF.new bK.out bJ.out)
   have cG:=hJ (PF.new bL.out bJ.out)
   have fA:=hJ (bt bC.out bJ.out)
   go_wp2_with fail
   clear cE
   go_roundw
   case rel=>exact ⟨i11+1,aH,aI,aJ,aK,aL,aM,aO,aR,aS,aT,aU,aV,aW,aX,aY,aZ,p11,q11,u11,v11,by omega,by go_num,aB.out,cF.out,cG.out,hJ (⟨by rw [lsL_succ aA.out.2.2.2 HX.out,aA.out.1]; unfold stL pcP gtB; dsimp only; rw [bM.out,if_neg cD.out],aA.out.2.1,aA.out.2.2.1,by have:=aA.out.2.2.2; omega⟩),fA.out⟩
   case measure=>simp [intOf] <;> omega
  ·have hli:¬ (i11:Int) < (n:Int):=by omega
   have fB:=hJ hlt
   obtain ⟨fC,fD,fE,fF,fG,fH,fI,fJ⟩:=aC.out.q8 0 1 2 3 4 5 6 7
   have aD:=hJ (BX.new cP.out bC.out)
   have fK:=aD.out.frozen 0
   have fL:=aD.out.cell 0 rfl
   have fM:=aD.out.frozen 1
   have fN:=aD.out.cell 1 rfl
   have fO:=aD.out.frozen 2
   have fP:=aD.out.cell 2 rfl
   have fQ:=aD.out.frozen 3
   have fR:=aD.out.cell 3 rfl
   have fS:=aD.out.frozen 4
   have fT:=aD.out.cell 4 rfl
   have fU:=aD.out.frozen 5
   have fV:=aD.out.cell 5 rfl
   have fW:=aD.out.frozen 6
   have fX:=aD.out.cell 6 rfl
   have fY:=aD.out.frozen 7
   have fZ:=aD.out.cell 7 rfl
   obtain ⟨x33,cM⟩:=nmz (World.setCell (World.setCell (World.setCell (World.setCell (World.setCell (World.setCell (World.setCell (World.setCell wl11 ⟨w.heap.size,0,none⟩ (.bool aH)) ⟨w.heap.size,1,none⟩ (.slice aI aJ aK)) ⟨w.heap.size,2,none⟩ (.bool aL)) ⟨w.heap.size,3,none⟩ (.slice aM aO aR)) ⟨w.heap.size,4,none⟩ (.bool aS)) ⟨w.heap.size,5,none⟩ (.slice aT aU aV)) ⟨w.heap.size,6,none⟩ (.bool aW)) ⟨w.heap.size,7,none⟩ (.slice aX aY aZ))
   have bO:=hJ (show sto wl11 w.heap.size 0 [.bool aH,.slice aI aJ aK,.bool aL,.slice aM aO aR,.bool aS,.slice aT aU aV,.bool aW,.slice aX aY aZ]=x33 from cM)
   have gA:=hJ (show BX 37 x33 w.heap.size #[.bool aH,.slice aI aJ aK,.bool aL,.slice aM aO aR,.bool aS,.slice aT aU aV,.bool aW,.slice aX aY aZ] by rw [←bO.out]; exact BX.put aD.out _ _)
   have gB:=hJ (show Below w.heap.size w x33 by rw [←bO.out]; exact below_sto dR.out cQ.out _ _)
   have cF:=hJ (show PF x33 aH aI aJ aK aL aM aO aR p11 q11 by rw [←bO.out]; exact PF.sto bK.out aD.out rfl _ _)
   have cG:=hJ (show PF x33 aS aT aU aV aW aX aY aZ u11 v11 by rw [←bO.out]; exact PF.sto bL.out aD.out rfl _ _)
   go_wp2
   clear fC fD fE fF fG fH fI fJ fK fL fM fN fO fP fQ fR fS fT fU fV fW fX fY fZ cM
   exact bodyPost_ret (results_cell_row rfl _ _ _ _ _ _ _ rfl gA.out Tryz.underlying37 rfl TP_size) rfl (by rw [show lsL gtB LL=(p11,q11,u11,v11) from by rw [←aA.out.1,fB.out,←cO.out,List.take_length]]; show RetTw p11 q11 u11 v11 w _ _; exact ⟨aH,aI,aJ,aK,aL,aM,aO,aR,aS,aT,aU,aV,aW,aX,aY,aZ,rfl,cF.out,cG.out,gB.out⟩)
end Go.Proofs.YtdgicnhadecldaaGreat
