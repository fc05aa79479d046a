/- The walk of the law CrossTurned. -/
import Derived.Test.YtagakcficjcfhaaGreatKB2
import Derived.Test.YtagakcficjcfhaaGreatKB5
import Derived.Test.YtagakcficjcfhaaGreatKCI
import Derived.Test.YtagakcficjcfhaaGreatKCM
import Derived.Test.YtagakcficjcfhaaGreatKCP
import Derived.Test.YtagakcficjcfhaaGreatKCT
import Derived.Test.YtagakcficjcfhaaGreatKEA
import Derived.Test.YtagakcficjcfhaaGreatKFD
import Derived.Test.YtagakcficjcfhaaGreatKPF
import Derived.Test.YtagakcficjcfhaaGreatKRS
namespace Go.Proofs.YtagakcficjcfhaaGreat
open Go.RowKit
attribute [local go_sem ↓] Go.wp_at_zero Go.wp_at_succ
set_option linter.unusedVariables false
set_option linter.unusedSimpArgs false
/-- A valid segment. -/
def VN (a b c d:Int):Prop:=(vdP (a,b)=0∧vdP (c,d)=0)∧¬ (a=c∧b=d)
theorem VN.rev {a b c d:Int} (h:VN a b c d):VN c d a b:=⟨⟨h.1.2,h.1.1⟩,fun e=>h.2 ⟨e.1.symm,e.2.symm⟩⟩
abbrev Pr8:=Int × Int × Int × Int × Int × Int × Int × Int
def p8V:List Pr8→List Value
 | []=>[]
 | p :: l=>.int .i64 p.1 :: .int .i64 p.2.1 :: .int .i64 p.2.2.1 :: .int .i64 p.2.2.2.1 :: .int .i64 p.2.2.2.2.1 :: .int .i64 p.2.2.2.2.2.1 :: .int .i64 p.2.2.2.2.2.2.1 :: .int .i64 p.2.2.2.2.2.2.2 :: p8V l
theorem p8V_get {l:List Pr8} {i:Nat} {a b c d e f g h:Int} (hx:l[i]?=some (a,b,c,d,e,f,g,h)):((p8V l).toArray[i*8]?=some (.int .i64 a)∧(p8V l).toArray[i*8+1]?=some (.int .i64 b)∧(p8V l).toArray[i*8+2]?=some (.int .i64 c)∧(p8V l).toArray[i*8+3]?=some (.int .i64 d))∧(p8V l).toArray[i*8+4]?=some (.int .i64 e)∧(p8V l).toArray[i*8+4+1]?=some (.int .i64 f)∧(p8V l).toArray[i*8+4+2]?=some (.int .i64 g)∧(p8V l).toArray[i*8+4+3]?=some (.int .i64 h):=by
 simp only [List.getElem?_toArray]
 induction l generalizing i with
 | nil=>simp at hx
 | cons q l ih =>
  match i with
  | 0=>simp at hx; subst hx; exact ⟨⟨rfl,rfl,rfl,rfl⟩,rfl,rfl,rfl,rfl⟩
  | i+1 =>
   have:=ih (i:=i) (by simpa using hx)
   rw [show (i+1)*8=i*8+1+1+1+1+1+1+1+1 by omega]
   exact this
theorem get8 {l:List Pr8} {n i:Nat} (h:l.length=n) (hi:i < n):∃ a b c d e f g h,l[i]?=some (a,b,c,d,e,f,g,h):=⟨_,_,_,_,_,_,_,_,List.getElem?_eq_getElem (by omega)⟩
set_option maxRecDepth 100000 in
set_option maxHeartbeats 12800000 in
theorem crossTurned_walk (n m kk:Int) (w:World) (hw:(Lit.int .i64 n).wf=true∧(Lit.int .i64 m).wf=true∧(Lit.int .i64 kk).wf=true) :
  Calls Tryz.prog 7 #[.int .i64 n,.int .i64 m,.int .i64 kk] w fun e w'=>e=.returned (.bool true)∧Below w.heap.size w w':=by
 have bA:=hJ hw
 clear hw
 go_enter Tryz.func7,Tryz.ntmps7
 go_wp2_with fail
 refine (rpair_any n m kk w ⟨bA.out.1,bA.out.2.1,bA.out.2.2⟩).mono ?_
 rintro e w1 ⟨ax,ay,bx,by',cx,cy,dx,dy,rfl,hsp,htp,hb⟩
 have bZ:=hJ hb
 clear hb
 have bB:=hJ (show VN ax ay bx by' from hsp.vs)
 have bC:=hJ (show VN cx cy dx dy from htp.vs)
 clear hsp htp
 obtain ⟨x2,aS⟩:=nmz ((w1.alloc (.cells #[.int .i64 ax,.int .i64 ay,.int .i64 bx,.int .i64 by'] 25)).alloc (.cells #[.int .i64 cx,.int .i64 cy,.int .i64 dx,.int .i64 dy] 25))
 have cA:=hJ (show Below w1.heap.size w1 x2 by rw [←aS]; exact (((Below.refl _ _).alloc (Nat.le_refl _) _).alloc (by simp only [World.size_alloc]; omega) _))
 have cB:=hJ (show BX 25 x2 w1.heap.size #[.int .i64 ax,.int .i64 ay,.int .i64 bx,.int .i64 by'] by rw [←aS]; exact ((BX.at rfl).alloc _))
 have cC:=hJ (show BX 25 x2 (w1.heap.size+1) #[.int .i64 cx,.int .i64 cy,.int .i64 dx,.int .i64 dy] by rw [←aS]; exact (BX.at (by simp only [World.size_alloc])))
 obtain ⟨⟨k,⟨p0,q0,u0,v0⟩,p1,q1,u1,v1⟩,hx⟩:=nmz (cutV ax ay bx by' cx cy dx dy)
 have HX:=hJ hx
 have aA:=hJ (cut_fr bB.out.1 bC.out.1 hx)
 clear hx
 obtain ⟨cR,cS,cT,cU⟩:=cB.out.c4 0 1 2 3 rfl rfl rfl rfl
 obtain ⟨cV,cW,cX,cY⟩:=cC.out.c4 0 1 2 3 rfl rfl rfl rfl
 go_wp2_with fail
 clear aS cR cS cT cU cV cW cX cY
 refine (Meet_any ax ay bx by' cx cy dx dy k p0 q0 u0 v0 p1 q1 u1 v1 x2 ⟨bB.out,bC.out⟩ HX.out).mono ?_
 rintro e w11 ⟨s11,A11,n11,c11,t11,B11,m11,d11,s12,A12,n12,c12,t12,B12,m12,d12,s13,A13,n13,c13,t13,B13,m13,d13,s14,A14,n14,c14,t14,B14,m14,d14,rfl,hr11,hr12,hr13,hr14,hb⟩
 have aT:=hJ hb
 have cZ:=hJ hr11
 have dA:=hJ hr12
 have dB:=hJ hr13
 have dD:=hJ hr14
 clear hb hr11 hr12 hr13 hr14
 obtain ⟨x12,aU⟩:=nmz (w11.alloc (.cells #[.int .i64 0,.bool false,.slice none 0 0,.bool false,.slice none 0 0,.bool false,.slice none 0 0,.bool false,.slice none 0 0,.bool false,.slice none 0 0,.bool false,.slice none 0 0,.bool false,.slice none 0 0,.bool false,.slice none 0 0] 39))
 have bD:=hJ (show Below w11.heap.size w11 x12 by rw [←aU]; exact ((Below.refl _ _).alloc (Nat.le_refl _) _))
 have cD:=hJ (show BX 39 x12 w11.heap.size #[.int .i64 0,.bool false,.slice none 0 0,.bool false,.slice none 0 0,.bool false,.slice none 0 0,.bool false,.slice none 0 0,.bool false,.slice none 0 0,.bool false,.slice none 0 0,.bool false,.slice none 0 0,.bool false,.slice none 0 0] by rw [←aU]; exact (BX.at rfl))
 have bE:=hJ (show w11.heap.size≤w11.heap.size by omega)
 obtain ⟨x13,cE⟩:=nmz (sto x12 w11.heap.size 0 [.int .i64 k,.bool s11,.slice A11 n11 c11,.bool t11,.slice B11 m11 d11,.bool s12,.slice A12 n12 c12,.bool t12,.slice B12 m12 d12,.bool s13,.slice A13 n13 c13,.bool t13,.slice B13 m13 d13,.bool s14,.slice A14 n14 c14,.bool t14,.slice B14 m14 d14])
 have aM:=hJ cE
 have dE:=hJ (show BX 39 x13 w11.heap.size #[.int .i64 k,.bool s11,.slice A11 n11 c11,.bool t11,.slice B11 m11 d11,.bool s12,.slice A12 n12 c12,.bool t12,.slice B12 m12 d12,.bool s13,.slice A13 n13 c13,.bool t13,.slice B13 m13 d13,.bool s14,.slice A14 n14 c14,.bool t14,.slice B14 m14 d14] by rw [←aM.out]; exact BX.put_all cD.out [.int .i64 k,.bool s11,.slice A11 n11 c11,.bool t11,.slice B11 m11 d11,.bool s12,.slice A12 n12 c12,.bool t12,.slice B12 m12 d12,.bool s13,.slice A13 n13 c13,.bool t13,.slice B13 m13 d13,.bool s14,.slice A14 n14 c14,.bool t14,.slice B14 m14 d14] (by simp))
 have cF:=hJ (show Below x2.heap.size x2 x13 by rw [←aM.out]; exact below_sto (bt aT.out bD.out) (Nat.le_trans (aT.out).size bE.out) _ _)
 have bF:=hJ (BX.new cB.out cF.out)
 obtain ⟨dG,dH⟩:=bF.out.c2 2 3 rfl rfl
 obtain ⟨dI,dJ⟩:=bF.out.c2 0 1 rfl rfl
 obtain ⟨x18,bG⟩:=nmz (x13.alloc (.cells #[.int .i64 bx,.int .i64 by',.int .i64 ax,.int .i64 ay] 25))
 have aV:=hJ (show Below x13.heap.size x13 x18 by rw [←bG]; exact ((Below.refl _ _).alloc (Nat.le_refl _) _))
 have dK:=hJ (show BX 25 x18 x13.heap.size #[.int .i64 bx,.int .i64 by',.int .i64 ax,.int .i64 ay] by rw [←bG]; exact (BX.at rfl))
 have dL:=hJ (bt cF.out aV.out)
 have bH:=hJ (BX.new cC.out dL.out)
 obtain ⟨dM,dN⟩:=bH.out.c2 2 3 rfl rfl
 obtain ⟨dO,dP⟩:=bH.out.c2 0 1 rfl rfl
 obtain ⟨x23,bJ⟩:=nmz (x18.alloc (.cells #[.int .i64 dx,.int .i64 dy,.int .i64 cx,.int .i64 cy] 25))
 have aO:=hJ (show Below x18.heap.size x18 x23 by rw [←bJ]; exact ((Below.refl _ _).alloc (Nat.le_refl _) _))
 have aW:=hJ (show BX 25 x23 x18.heap.size #[.int .i64 dx,.int .i64 dy,.int .i64 cx,.int .i64 cy] by rw [←bJ]; exact (BX.at rfl))
 have cG:=hJ (BX.new bH.out aO.out)
 obtain ⟨dQ,dR,dS,dT⟩:=cG.out.c4 0 1 2 3 rfl rfl rfl rfl
 have cH:=hJ (bt aV.out aO.out)
 have bK:=hJ (BX.new bF.out cH.out)
 obtain ⟨dU,dW,dX,dY⟩:=bK.out.c4 0 1 2 3 rfl rfl rfl rfl
 have bL:=hJ (BX.new dK.out aO.out)
 obtain ⟨dZ,eA,eB,eC⟩:=bL.out.c4 0 1 2 3 rfl rfl rfl rfl
 obtain ⟨eD,eE,eF,eG⟩:=cG.out.c4 0 1 2 3 rfl rfl rfl rfl
 obtain ⟨eH,eI,eJ,eK⟩:=bK.out.c4 0 1 2 3 rfl rfl rfl rfl
 obtain ⟨eL,eM,eN,eO⟩:=aW.out.c4 0 1 2 3 rfl rfl rfl rfl
 obtain ⟨eP,eQ,eR,eS⟩:=bL.out.c4 0 1 2 3 rfl rfl rfl rfl
 obtain ⟨eT,eU,eV,eW⟩:=aW.out.c4 0 1 2 3 rfl rfl rfl rfl
 obtain ⟨eX,eY,eZ,fA⟩:=aW.out.c4 0 1 2 3 rfl rfl rfl rfl
 obtain ⟨fB,fC,fD,fE⟩:=bK.out.c4 0 1 2 3 rfl rfl rfl rfl
 obtain ⟨fF,fG,fH,fI⟩:=aW.out.c4 0 1 2 3 rfl rfl rfl rfl
 obtain ⟨fJ,fK,fL,fM⟩:=bL.out.c4 0 1 2 3 rfl rfl rfl rfl
 obtain ⟨x72,bM⟩:=nmz (x23.alloc (.cells #[.int .i64 cx,.int .i64 cy,.int .i64 dx,.int .i64 dy,.int .i64 ax,.int .i64 ay,.int .i64 bx,.int .i64 by',.int .i64 bx,.int .i64 by',.int .i64 ax,.int .i64 ay,.int .i64 cx,.int .i64 cy,.int .i64 dx,.int .i64 dy,.int .i64 ax,.int .i64 ay,.int .i64 bx,.int .i64 by',.int .i64 dx,.int .i64 dy,.int .i64 cx,.int .i64 cy,.int .i64 bx,.int .i64 by',.int .i64 ax,.int .i64 ay,.int .i64 dx,.int .i64 dy,.int .i64 cx,.int .i64 cy,.int .i64 dx,.int .i64 dy,.int .i64 cx,.int .i64 cy,.int .i64 ax,.int .i64 ay,.int .i64 bx,.int .i64 by',.int .i64 dx,.int .i64 dy,.int .i64 cx,.int .i64 cy,.int .i64 bx,.int .i64 by',.int .i64 ax,.int .i64 ay] 28))
 have bN:=hJ (show Below x23.heap.size x23 x72 by rw [←bM]; exact ((Below.refl _ _).alloc (Nat.le_refl _) _))
 have fN:=hJ (show BX 28 x72 x23.heap.size #[.int .i64 cx,.int .i64 cy,.int .i64 dx,.int .i64 dy,.int .i64 ax,.int .i64 ay,.int .i64 bx,.int .i64 by',.int .i64 bx,.int .i64 by',.int .i64 ax,.int .i64 ay,.int .i64 cx,.int .i64 cy,.int .i64 dx,.int .i64 dy,.int .i64 ax,.int .i64 ay,.int .i64 bx,.int .i64 by',.int .i64 dx,.int .i64 dy,.int .i64 cx,.int .i64 cy,.int .i64 bx,.int .i64 by',.int .i64 ax,.int .i64 ay,.int .i64 dx,.int .i64 dy,.int .i64 cx,.int .i64 cy,.int .i64 dx,.int .i64 dy,.int .i64 cx,.int .i64 cy,.int .i64 ax,.int .i64 ay,.int .i64 bx,.int .i64 by',.int .i64 dx,.int .i64 dy,.int .i64 cx,.int .i64 cy,.int .i64 bx,.int .i64 by',.int .i64 ax,.int .i64 ay] by rw [←bM]; exact (BX.at rfl))
 obtain ⟨PV,hPT⟩:∃ z:List Pr8,[(cx,cy,dx,dy,ax,ay,bx,by'),(bx,by',ax,ay,cx,cy,dx,dy),(ax,ay,bx,by',dx,dy,cx,cy),(bx,by',ax,ay,dx,dy,cx,cy),(dx,dy,cx,cy,ax,ay,bx,by'),(dx,dy,cx,cy,bx,by',ax,ay)]=z:=⟨_,rfl⟩
 have fO:=hJ (show BX 28 x72 x23.heap.size (p8V PV).toArray by rw [←hPT]; exact fN.out)
 have fP:=hJ (show PV.length=6 by rw [←hPT]; rfl)
 have fQ:=hJ (show ∀ p ∈ PV,(VN p.1 p.2.1 p.2.2.1 p.2.2.2.1∧VN p.2.2.2.2.1 p.2.2.2.2.2.1 p.2.2.2.2.2.2.1 p.2.2.2.2.2.2.2)∧cutV p.1 p.2.1 p.2.2.1 p.2.2.2.1 p.2.2.2.2.1 p.2.2.2.2.2.1 p.2.2.2.2.2.2.1 p.2.2.2.2.2.2.2=(k,(p0,q0,u0,v0),(p1,q1,u1,v1)) by
  have a:=bB.out
  have b:=bC.out
  have x:=HX.out
  have y:=(cut_swap a.1 b.1).trans x
  rw [←hPT]
  simp only [List.mem_cons,List.not_mem_nil,or_false,forall_eq_or_imp,forall_eq]
  exact ⟨⟨⟨b,a⟩,y⟩,⟨⟨a.rev,b⟩,(cut_rev a.1 b.1).trans x⟩,⟨⟨a,b.rev⟩,(cut_rev2 b.1 a.1).trans x⟩,⟨⟨a.rev,b.rev⟩,(cut_rev2 b.1 a.rev.1).trans ((cut_rev a.1 b.1).trans x)⟩,⟨⟨b.rev,a⟩,(cut_rev b.1 a.1).trans y⟩,⟨⟨b.rev,a.rev⟩,(cut_rev2 a.1 b.rev.1).trans ((cut_rev b.1 a.1).trans y)⟩⟩)
 clear hPT
 go_wp2_with (refine wpList_st 39 (.tmp 9) (.tmp 28) rfl ?_; (try rw [aU]); refine wpList_store_sto w11.heap.size 0 [.int .i64 k,.bool s11,.slice A11 n11 c11,.bool t11,.slice B11 m11 d11,.bool s12,.slice A12 n12 c12,.bool t12,.slice B12 m12 d12,.bool s13,.slice A13 n13 c13,.bool t13,.slice B13 m13 d13,.bool s14,.slice A14 n14 c14,.bool t14,.slice B14 m14 d14] cD.out (by simp) aM.out rfl _ _ _ rfl rfl rfl (by kernel_rfl) rfl ?_)
 clear aU cE dG dH dI dJ bG dM dN dO dP bJ dQ dR dS dT dU dW dX dY dZ eA eB eC eD eE eF eG eH eI eJ eK eL eM eN eO eP eQ eR eS eT eU eV eW eX eY eZ fA fB fC fD fE fF fG fH fI fJ fK fL fM bM
 go_loopw [14] (fun tv wr=>∃ i:Nat,i≤6∧tv=.int .i64 (i:Int)∧Below x72.heap.size x72 wr) (fun tv _=>6 - (intOf tv).toNat)
 case atStart=>exact ⟨0,by omega,rfl,Below.refl _ _⟩
 case round =>
  obtain ⟨i73,hi,rfl,hbel⟩:=hrel
  obtain ⟨wl73,rfl⟩:∃ W:World,W=wr:=⟨_,rfl⟩
  have aR:=hJ hbel
  clear hbel
  rcases (show i73 < 6∨i73=6 by omega) with hlt | rfl
  ·have h0i:(0:Int)≤(i73:Int):=by omega
   have hli:(i73:Int) < 6:=by omega
   obtain ⟨ea,eb,ec,ed,fa,fb,fc,fd,hx⟩:=get8 fP.out (show i73 < 6 by omega)
   have aG:=hJ (p8V_get hx)
   have fR:=hJ aG.out.1.1
   have fS:=hJ aG.out.1.2.1
   have fT:=hJ aG.out.1.2.2.1
   have fU:=hJ aG.out.1.2.2.2
   have fV:=hJ aG.out.2.1
   have fW:=hJ aG.out.2.2.1
   have fX:=hJ aG.out.2.2.2.1
   have fY:=hJ aG.out.2.2.2.2
   have aX:=hJ (fQ.out _ (List.mem_of_getElem? hx))
   clear hx
   have aH:=hJ (BX.new fO.out aR.out)
   have aC:Hid (∀ w',Below wl73.heap.size wl73 w'→(fun w':World=>w'.cell? ⟨x23.heap.size,i73*8,none⟩=some (.int .i64 ea)∧w'.cell? ⟨x23.heap.size,i73*8+1,none⟩=some (.int .i64 eb)∧w'.cell? ⟨x23.heap.size,i73*8+2,none⟩=some (.int .i64 ec)∧w'.cell? ⟨x23.heap.size,i73*8+3,none⟩=some (.int .i64 ed)∧w'.cell? ⟨x23.heap.size,i73*8+4,none⟩=some (.int .i64 fa)∧w'.cell? ⟨x23.heap.size,i73*8+4+1,none⟩=some (.int .i64 fb)∧w'.cell? ⟨x23.heap.size,i73*8+4+2,none⟩=some (.int .i64 fc)∧w'.cell? ⟨x23.heap.size,i73*8+4+3,none⟩=some (.int .i64 fd)∧Below wl73.heap.size wl73 w') w'):=hJ (fun w' hb=>⟨(BX.new aH.out hb).cell (i73*8) fR.out,(BX.new aH.out hb).cell (i73*8+1) fS.out,(BX.new aH.out hb).cell (i73*8+2) fT.out,(BX.new aH.out hb).cell (i73*8+3) fU.out,(BX.new aH.out hb).cell (i73*8+4) fV.out,(BX.new aH.out hb).cell (i73*8+4+1) fW.out,(BX.new aH.out hb).cell (i73*8+4+2) fX.out,(BX.new aH.out hb).cell (i73*8+4+3) fY.out,hb⟩)
   go_wp2_with fail
   obtain ⟨v74,hv74⟩:=nmz (World.drew wl73)
   have bO:=hJ (show Below wl73.heap.size wl73 v74 by rw [←hv74]; exact (Below.refl _ _).drew)
   refine whd aC hv74 (fun hHeld=>?_)
   clear hv74
   refine tq 0 ?_
   refine tq 1 ?_
   refine tq 2 ?_
   refine tq 3 ?_
   refine tq 4 ?_
   refine tq 5 ?_
   refine tq 6 ?_
   refine tq 7 ?_
   refine tq 8 ?_
   refine tq 9 ?_
   try simp only [PT]
   refine wpAnyH_name (fun F hF a0 ha0 L0 hL0=>?_)
   have aY:∀ (s15:Bool) (A15:Option Addr) (n15:Nat) (c15:Nat) (t15:Bool) (B15:Option Addr) (m15:Nat) (d15:Nat) (s16:Bool) (A16:Option Addr) (n16:Nat) (c16:Nat) (t16:Bool) (B16:Option Addr) (m16:Nat) (d16:Nat) (s17:Bool) (A17:Option Addr) (n17:Nat) (c17:Nat) (t17:Bool) (B17:Option Addr) (m17:Nat) (d17:Nat) (s18:Bool) (A18:Option Addr) (n18:Nat) (c18:Nat) (t18:Bool) (B18:Option Addr) (m18:Nat) (d18:Nat) (aB:Nat) (v:World),Hid (Below wl73.heap.size wl73 v)→Hid (PF v s15 A15 n15 c15 t15 B15 m15 d15 p0 q0)→Hid (PF v s16 A16 n16 c16 t16 B16 m16 d16 u0 v0)→Hid (PF v s17 A17 n17 c17 t17 B17 m17 d17 p1 q1)→Hid (PF v s18 A18 n18 c18 t18 B18 m18 d18 u1 v1)→Hid (BX 39 v aB #[.int .i64 0,.bool false,.slice none 0 0,.bool false,.slice none 0 0,.bool false,.slice none 0 0,.bool false,.slice none 0 0,.bool false,.slice none 0 0,.bool false,.slice none 0 0,.bool false,.slice none 0 0,.bool false,.slice none 0 0])→Hid (wl73.heap.size≤aB)→F 2 (Array.setIfInBounds (Array.setIfInBounds (Array.setIfInBounds (Array.setIfInBounds (Array.setIfInBounds L0 10 true) 14 true) 11 true) 12 true) 13 true) (Act.put (Act.put (Act.put (Act.put (Act.put a0 (some 78) (.tuple #[.agg #[.int .i64 k,.bool s15,.slice A15 n15 c15,.bool t15,.slice B15 m15 d15,.bool s16,.slice A16 n16 c16,.bool t16,.slice B16 m16 d16,.bool s17,.slice A17 n17 c17,.bool t17,.slice B17 m17 d17,.bool s18,.slice A18 n18 c18,.bool t18,.slice B18 m18 d18],.int .i64 0])) (some 15) (.pointer (some ⟨aB,0,none⟩))) (some 67) (.tuple #[.agg #[.int .i64 k,.bool s15,.slice A15 n15 c15,.bool t15,.slice B15 m15 d15,.bool s16,.slice A16 n16 c16,.bool t16,.slice B16 m16 d16,.bool s17,.slice A17 n17 c17,.bool t17,.slice B17 m17 d17,.bool s18,.slice A18 n18 c18,.bool t18,.slice B18 m18 d18],.int .i64 0])) (some 79) (.agg #[.int .i64 k,.bool s15,.slice A15 n15 c15,.bool t15,.slice B15 m15 d15,.bool s16,.slice A16 n16 c16,.bool t16,.slice B16 m16 d16,.bool s17,.slice A17 n17 c17,.bool t17,.slice B17 m17 d17,.bool s18,.slice A18 n18 c18,.bool t18,.slice B18 m18 d18])) (some 80) (.int .i64 0)) v:=by
    intro s15 A15 n15 c15 t15 B15 m15 d15 s16 A16 n16 c16 t16 B16 m16 d16 s17 A17 n17 c17 t17 B17 m17 d17 s18 A18 n18 c18 t18 B18 m18 d18 aB v aD bP bQ bR bS aI bT
    subst hF ha0 hL0
    simp only [PT] at  ⊢
    have hHeld:=aC.out _ aD.out
    refine ryy [15] ?_
    refine .cons rfl (fun K hK=>?_) .nil
    obtain ⟨v75,hV⟩:=nmz (sto v aB 0 [.int .i64 k,.bool s15,.slice A15 n15 c15,.bool t15,.slice B15 m15 d15,.bool s16,.slice A16 n16 c16,.bool t16,.slice B16 m16 d16,.bool s17,.slice A17 n17 c17,.bool t17,.slice B17 m17 d17,.bool s18,.slice A18 n18 c18,.bool t18,.slice B18 m18 d18])
    have aJ:=hJ hV
    clear hV
    refine wp_store_sto aB 0 [.int .i64 k,.bool s15,.slice A15 n15 c15,.bool t15,.slice B15 m15 d15,.bool s16,.slice A16 n16 c16,.bool t16,.slice B16 m16 d16,.bool s17,.slice A17 n17 c17,.bool t17,.slice B17 m17 d17,.bool s18,.slice A18 n18 c18,.bool t18,.slice B18 m18 d18] aI.out (by simp) aJ.out _ _ _ rfl rfl rfl (by kernel_rfl) rfl ?_
    have aZ:=hJ (show Below wl73.heap.size wl73 v75 by rw [←aJ.out]; exact below_sto aD.out bT.out _ _)
    have fZ:=hJ (show PF v75 s15 A15 n15 c15 t15 B15 m15 d15 p0 q0 by rw [←aJ.out]; exact PF.sto bP.out aI.out rfl _ _)
    have gA:=hJ (show PF v75 s16 A16 n16 c16 t16 B16 m16 d16 u0 v0 by rw [←aJ.out]; exact PF.sto bQ.out aI.out rfl _ _)
    have gB:=hJ (show PF v75 s17 A17 n17 c17 t17 B17 m17 d17 p1 q1 by rw [←aJ.out]; exact PF.sto bR.out aI.out rfl _ _)
    have gC:=hJ (show PF v75 s18 A18 n18 c18 t18 B18 m18 d18 u1 v1 by rw [←aJ.out]; exact PF.sto bS.out aI.out rfl _ _)
    have bU:=hJ (show BX 39 v75 aB #[.int .i64 k,.bool s15,.slice A15 n15 c15,.bool t15,.slice B15 m15 d15,.bool s16,.slice A16 n16 c16,.bool t16,.slice B16 m16 d16,.bool s17,.slice A17 n17 c17,.bool t17,.slice B17 m17 d17,.bool s18,.slice A18 n18 c18,.bool t18,.slice B18 m18 d18] by rw [←aJ.out]; exact BX.put_all aI.out [.int .i64 k,.bool s15,.slice A15 n15 c15,.bool t15,.slice B15 m15 d15,.bool s16,.slice A16 n16 c16,.bool t16,.slice B16 m16 d16,.bool s17,.slice A17 n17 c17,.bool t17,.slice B17 m17 d17,.bool s18,.slice A18 n18 c18,.bool t18,.slice B18 m18 d18] (by simp))
    clear hHeld
    refine hK.out _ _ (aC.out _ aZ.out) (fun hHeld=>?_)
    clear hK K
    refine tq 16 ?_
    try simp only [PT]
    refine wpAnyH_done (by kernel_rfl) ?_ _
    clear hHeld
    have gD:=hJ (bt (bt (bt cH.out bN.out) aR.out) aZ.out)
    have bV:=hJ (BX.new dE.out gD.out)
    have gE:=bV.out.cell 0 rfl
    have gF:=bU.out.cell 0 rfl
    obtain ⟨gG,gH,gI,gJ,gK,gL,gM,gN⟩:=bV.out.q8 1 2 3 4 5 6 7 8
    obtain ⟨gO,gP,gQ,gR,gS,gT,gU,gV⟩:=bU.out.q8 1 2 3 4 5 6 7 8
    have gW:=hJ (show Below w11.heap.size w11 x13 by rw [←aM.out]; exact below_sto bD.out bE.out _ _)
    have bW:=hJ (bt (bt (bt (bt (bt gW.out aV.out) aO.out) bN.out) aR.out) aZ.out)
    have gX:=hJ (PF.new cZ.out bW.out)
    have gY:=hJ (PF.new dA.out bW.out)
    go_wp2_with fail
    clear gE gF gG gH gI gJ gK gL gM gN gO gP gQ gR gS gT gU gV
    refine (ptcompare_any p0 q0 u0 v0 p0 q0 u0 v0 s11 A11 n11 c11 t11 B11 m11 d11 s12 A12 n12 c12 t12 B12 m12 d12 s15 A15 n15 c15 t15 B15 m15 d15 s16 A16 n16 c16 t16 B16 m16 d16 v75 gX.out gY.out fZ.out gA.out ⟨⟨aA.out.1.1.1.1,aA.out.1.1.2.1,aA.out.1.1.2.2⟩,⟨aA.out.1.2.1.1,aA.out.1.2.2.1,aA.out.1.2.2.2⟩,⟨aA.out.1.1.1.1,aA.out.1.1.2.1,aA.out.1.1.2.2⟩,⟨aA.out.1.2.1.1,aA.out.1.2.2.1,aA.out.1.2.2.2⟩⟩).mono ?_
    rw [pc_self]
    rintro e w95 ⟨rfl,hb⟩
    have aK:=hJ hb
    clear hb
    have gZ:=hJ (BX.new bV.out aK.out)
    obtain ⟨hA,hB,hC,hD,hE,hG,hH,hI⟩:=gZ.out.q8 9 10 11 12 13 14 15 16
    have hL:=hJ (BX.new bU.out aK.out)
    obtain ⟨hM,hN,hO,hP,hQ,hR,hS,hT⟩:=hL.out.q8 9 10 11 12 13 14 15 16
    have cI:=hJ (bt bW.out aK.out)
    have hU:=hJ (PF.new dB.out cI.out)
    have hW:=hJ (PF.new dD.out cI.out)
    have hX:=hJ (PF.new gB.out aK.out)
    have hY:=hJ (PF.new gC.out aK.out)
    go_wp2_with fail
    clear hA hB hC hD hE hG hH hI hM hN hO hP hQ hR hS hT
    refine (ptcompare_any p1 q1 u1 v1 p1 q1 u1 v1 s13 A13 n13 c13 t13 B13 m13 d13 s14 A14 n14 c14 t14 B14 m14 d14 s17 A17 n17 c17 t17 B17 m17 d17 s18 A18 n18 c18 t18 B18 m18 d18 w95 hU.out hW.out hX.out hY.out ⟨⟨aA.out.2.1.1.1,aA.out.2.1.2.1,aA.out.2.1.2.2⟩,⟨aA.out.2.2.1.1,aA.out.2.2.2.1,aA.out.2.2.2.2⟩,⟨aA.out.2.1.1.1,aA.out.2.1.2.1,aA.out.2.1.2.2⟩,⟨aA.out.2.2.1.1,aA.out.2.2.2.1,aA.out.2.2.2.2⟩⟩).mono ?_
    rw [pc_self]
    rintro e w112 ⟨rfl,hb⟩
    have hZ:=hJ hb
    clear hb
    have iA:=hJ (bt (bt (bt aR.out aZ.out) aK.out) hZ.out)
    go_wp2_with fail
    all_goals
     go_roundw
     case rel=>exact ⟨i73+1,by omega,by go_num,iA.out⟩
     case measure=>simp [intOf] <;> omega
   have cJ:∀ (s15:Bool) (A15:Option Addr) (n15:Nat) (c15:Nat) (t15:Bool) (B15:Option Addr) (m15:Nat) (d15:Nat) (s16:Bool) (A16:Option Addr) (n16:Nat) (c16:Nat) (t16:Bool) (B16:Option Addr) (m16:Nat) (d16:Nat) (s17:Bool) (A17:Option Addr) (n17:Nat) (c17:Nat) (t17:Bool) (B17:Option Addr) (m17:Nat) (d17:Nat) (s18:Bool) (A18:Option Addr) (n18:Nat) (c18:Nat) (t18:Bool) (B18:Option Addr) (m18:Nat) (d18:Nat) (v:World),Hid (Below wl73.heap.size wl73 v)→Hid (PF v s15 A15 n15 c15 t15 B15 m15 d15 p0 q0)→Hid (PF v s16 A16 n16 c16 t16 B16 m16 d16 u0 v0)→Hid (PF v s17 A17 n17 c17 t17 B17 m17 d17 p1 q1)→Hid (PF v s18 A18 n18 c18 t18 B18 m18 d18 u1 v1)→F 3 (Array.setIfInBounds (Array.setIfInBounds (Array.setIfInBounds (Array.setIfInBounds L0 10 true) 11 true) 12 true) 13 true) (Act.put (Act.put (Act.put (Act.put a0 (some 78) (.tuple #[.agg #[.int .i64 k,.bool s15,.slice A15 n15 c15,.bool t15,.slice B15 m15 d15,.bool s16,.slice A16 n16 c16,.bool t16,.slice B16 m16 d16,.bool s17,.slice A17 n17 c17,.bool t17,.slice B17 m17 d17,.bool s18,.slice A18 n18 c18,.bool t18,.slice B18 m18 d18],.int .i64 0])) (some 67) (.tuple #[.agg #[.int .i64 k,.bool s15,.slice A15 n15 c15,.bool t15,.slice B15 m15 d15,.bool s16,.slice A16 n16 c16,.bool t16,.slice B16 m16 d16,.bool s17,.slice A17 n17 c17,.bool t17,.slice B17 m17 d17,.bool s18,.slice A18 n18 c18,.bool t18,.slice B18 m18 d18],.int .i64 0])) (some 79) (.agg #[.int .i64 k,.bool s15,.slice A15 n15 c15,.bool t15,.slice B15 m15 d15,.bool s16,.slice A16 n16 c16,.bool t16,.slice B16 m16 d16,.bool s17,.slice A17 n17 c17,.bool t17,.slice B17 m17 d17,.bool s18,.slice A18 n18 c18,.bool t18,.slice B18 m18 d18])) (some 80) (.int .i64 0)) v:=by
    intro s15 A15 n15 c15 t15 B15 m15 d15 s16 A16 n16 c16 t16 B16 m16 d16 s17 A17 n17 c17 t17 B17 m17 d17 s18 A18 n18 c18 t18 B18 m18 d18 v aD bP bQ bR bS
    subst hF ha0 hL0
    simp only [PT] at aY ⊢
    have hHeld:=aC.out _ aD.out
    refine ryy [14] ?_
    refine .cons rfl (fun K hK=>?_) .nil
    go_simp
    have aL:=hJ ((Below.refl v.heap.size v).alloc (Nat.le_refl _) (.cells #[.int .i64 0,.bool false,.slice none 0 0,.bool false,.slice none 0 0,.bool false,.slice none 0 0,.bool false,.slice none 0 0,.bool false,.slice none 0 0,.bool false,.slice none 0 0,.bool false,.slice none 0 0,.bool false,.slice none 0 0] 39))
    have bX:=hJ (BX.lit v 39 #[.int .i64 0,.bool false,.slice none 0 0,.bool false,.slice none 0 0,.bool false,.slice none 0 0,.bool false,.slice none 0 0,.bool false,.slice none 0 0,.bool false,.slice none 0 0,.bool false,.slice none 0 0,.bool false,.slice none 0 0])
    obtain ⟨v113,hV⟩:=nmz (World.alloc v (.cells #[.int .i64 0,.bool false,.slice none 0 0,.bool false,.slice none 0 0,.bool false,.slice none 0 0,.bool false,.slice none 0 0,.bool false,.slice none 0 0,.bool false,.slice none 0 0,.bool false,.slice none 0 0,.bool false,.slice none 0 0] 39))
    obtain ⟨aB,hg⟩:=nmz (v.heap.size)
    rw [hV] at aL bX ⊢
    rw [hg] at bX ⊢
    have iB:=hJ (show wl73.heap.size≤aB by rw [←hg]; exact aD.out.size)
    clear hV hg
    have cK:=hJ (bt aD.out aL.out)
    have iC:=hJ (PF.new bP.out aL.out)
    have iD:=hJ (PF.new bQ.out aL.out)
    have iE:=hJ (PF.new bR.out aL.out)
    have iF:=hJ (PF.new bS.out aL.out)
    clear hHeld
    refine hK.out _ _ (aC.out _ cK.out) (fun hHeld=>?_)
    clear hK K
    try simp only [PT]
    exact wpAnyH_cast (by kernel_rfl) (aY s15 A15 n15 c15 t15 B15 m15 d15 s16 A16 n16 c16 t16 B16 m16 d16 s17 A17 n17 c17 t17 B17 m17 d17 s18 A18 n18 c18 t18 B18 m18 d18 aB v113 cK iC iD iE iF bX iB)
   have cL:∀ (aB:Nat) (v:World),Hid (Below wl73.heap.size wl73 v)→Hid (BX 39 v aB #[.int .i64 0,.bool false,.slice none 0 0,.bool false,.slice none 0 0,.bool false,.slice none 0 0,.bool false,.slice none 0 0,.bool false,.slice none 0 0,.bool false,.slice none 0 0,.bool false,.slice none 0 0,.bool false,.slice none 0 0])→Hid (wl73.heap.size≤aB)→F 6 (Array.setIfInBounds L0 14 true) (Act.put a0 (some 15) (.pointer (some ⟨aB,0,none⟩))) v:=by
    intro aB v aD aI bT
    subst hF ha0 hL0
    simp only [PT] at aY ⊢
    have hHeld:=aC.out _ aD.out
    refine ryy [10] ?_
    refine .cons rfl (fun K hK=>?_) .nil
    go_simp
    go_at_call 13
    refine (Meet_any ea eb ec ed fa fb fc fd k p0 q0 u0 v0 p1 q1 u1 v1 v aX.out.1 aX.out.2).mono ?_
    rintro e v114 ⟨s15,A15,n15,c15,t15,B15,m15,d15,s16,A16,n16,c16,t16,B16,m16,d16,s17,A17,n17,c17,t17,B17,m17,d17,s18,A18,n18,c18,t18,B18,m18,d18,rfl,hr15,hr16,hr17,hr18,hb⟩
    have cM:=hJ hb
    have iG:=hJ hr15
    have iH:=hJ hr16
    have iI:=hJ hr17
    have iJ:=hJ hr18
    clear hb hr15 hr16 hr17 hr18
    go_wp2_with fail
    have cN:=hJ (bt aD.out cM.out)
    have iK:=hJ (BX.new aI.out cM.out)
    clear hHeld
    refine hK.out _ _ (aC.out _ cN.out) (fun hHeld=>?_)
    clear hK K
    refine tq 11 ?_
    refine tq 12 ?_
    refine tq 13 ?_
    try simp only [PT]
    exact wpAnyH_cast (by kernel_rfl) (aY s15 A15 n15 c15 t15 B15 m15 d15 s16 A16 n16 c16 t16 B16 m16 d16 s17 A17 n17 c17 t17 B17 m17 d17 s18 A18 n18 c18 t18 B18 m18 d18 aB v114 cN iG iH iI iJ iK bT)
   subst hF ha0 hL0
   simp only [PT] at cJ cL
   refine ryy [10,14] ?_
   refine .cons rfl (fun K hK=>?_) ?_
   go_simp
   go_at_call 13
   refine (Meet_any ea eb ec ed fa fb fc fd k p0 q0 u0 v0 p1 q1 u1 v1 v74 aX.out.1 aX.out.2).mono ?_
   rintro e v115 ⟨s15,A15,n15,c15,t15,B15,m15,d15,s16,A16,n16,c16,t16,B16,m16,d16,s17,A17,n17,c17,t17,B17,m17,d17,s18,A18,n18,c18,t18,B18,m18,d18,rfl,hr15,hr16,hr17,hr18,hb⟩
   have iL:=hJ hb
   have iM:=hJ hr15
   have iN:=hJ hr16
   have iO:=hJ hr17
   have iP:=hJ hr18
   clear hb hr15 hr16 hr17 hr18
   go_wp2_with fail
   have cO:=hJ (bt bO.out iL.out)
   clear hHeld
   refine hK.out _ _ (aC.out _ cO.out) (fun hHeld=>?_)
   clear hK K
   refine tq 11 ?_
   refine tq 12 ?_
   refine tq 13 ?_
   try simp only [PT]
   exact wpAnyH_cast (by kernel_rfl) (cJ s15 A15 n15 c15 t15 B15 m15 d15 s16 A16 n16 c16 t16 B16 m16 d16 s17 A17 n17 c17 t17 B17 m17 d17 s18 A18 n18 c18 t18 B18 m18 d18 v115 cO iM iN iO iP)
   refine .cons rfl (fun K hK=>?_) .nil
   go_simp
   have cP:=hJ ((Below.refl v74.heap.size v74).alloc (Nat.le_refl _) (.cells #[.int .i64 0,.bool false,.slice none 0 0,.bool false,.slice none 0 0,.bool false,.slice none 0 0,.bool false,.slice none 0 0,.bool false,.slice none 0 0,.bool false,.slice none 0 0,.bool false,.slice none 0 0,.bool false,.slice none 0 0] 39))
   have bY:=hJ (BX.lit v74 39 #[.int .i64 0,.bool false,.slice none 0 0,.bool false,.slice none 0 0,.bool false,.slice none 0 0,.bool false,.slice none 0 0,.bool false,.slice none 0 0,.bool false,.slice none 0 0,.bool false,.slice none 0 0,.bool false,.slice none 0 0])
   obtain ⟨v116,hV⟩:=nmz (World.alloc v74 (.cells #[.int .i64 0,.bool false,.slice none 0 0,.bool false,.slice none 0 0,.bool false,.slice none 0 0,.bool false,.slice none 0 0,.bool false,.slice none 0 0,.bool false,.slice none 0 0,.bool false,.slice none 0 0,.bool false,.slice none 0 0] 39))
   obtain ⟨aB,hg⟩:=nmz (v74.heap.size)
   rw [hV] at cP bY ⊢
   rw [hg] at bY ⊢
   have iQ:=hJ (show wl73.heap.size≤aB by rw [←hg]; exact bO.out.size)
   clear hV hg
   have cQ:=hJ (bt bO.out cP.out)
   clear hHeld
   refine hK.out _ _ (aC.out _ cQ.out) (fun hHeld=>?_)
   clear hK K
   try simp only [PT]
   exact wpAnyH_cast (by kernel_rfl) (cL aB v116 cQ bY iQ)
  ·(try rw [show ((6:Nat):Int)=6 from rfl])
   go_wp2_with fail
   refine (lives7_any wl73).mono ?_
   rintro e w117 ⟨rfl,hb⟩
   have iR:=hJ hb
   clear hb
   have iS:=hJ (bt (bt bZ.out cA.out) aT.out)
   have iT:=hJ (show Below w.heap.size w x13 by rw [←aM.out]; exact below_sto (bt (bt (bt bZ.out cA.out) aT.out) bD.out) (Nat.le_trans (iS.out).size bE.out) _ _)
   have iU:=hJ (bt (bt (bt (bt (bt iT.out aV.out) aO.out) bN.out) aR.out) iR.out)
   go_wp2
   go_ret
   exact ⟨rfl,iU.out⟩
theorem crossTurned_law (a0 a1 a2:Int) (w:World) (w0:(Lit.int .i64 a0).wf=true) (w1:(Lit.int .i64 a1).wf=true) (w2:(Lit.int .i64 a2).wf=true) :
  Calls Tryz.prog 7 #[.int .i64 a0,.int .i64 a1,.int .i64 a2] w fun e w'=>e=.returned (.bool true)∧Below w.heap.size w w':=crossTurned_walk a0 a1 a2 w ⟨w0,w1,w2⟩
end Go.Proofs.YtagakcficjcfhaaGreat
