/- Contract of cross.meetAtEnds. Conditions: as each statement has them. -/
import Derived.Test.YtdgicnhadecldaaGreatKAE
import Derived.Test.YtdgicnhadecldaaGreatKB2
import Derived.Test.YtdgicnhadecldaaGreatKB5
import Derived.Test.YtdgicnhadecldaaGreatKCA
import Derived.Test.YtdgicnhadecldaaGreatKCC
import Derived.Test.YtdgicnhadecldaaGreatKCE
import Derived.Test.YtdgicnhadecldaaGreatKEA
import Derived.Test.YtdgicnhadecldaaGreatKFD
import Derived.Test.YtdgicnhadecldaaGreatKPF
import Derived.Test.YtdgicnhadecldaaGreatKRI
import Derived.Test.YtdgicnhadecldaaGreatKRS
namespace Go.Proofs.YtdgicnhadecldaaGreat
open Go.RowKit
attribute [local go_sem ↓] Go.wp_at_zero Go.wp_at_succ
set_option linter.unusedVariables false
set_option linter.unusedSimpArgs false
theorem stop_h7 {p:Prop} (h:∀ q:Prop,Hid (q=p)→q):p:=h p (hJ rfl)
/-- No integer. -/
def okP:Value→Bool
 | .int _ _=>false
 | _=>true
theorem own_int {t:TypeId} {w w':World} {b:Nat} {cs:Array Value} {v:Value} {xs:List Value} {k:IntKind} {z:Int} (h:BX t w b cs) (hc:cs[0]?=some (.int k z)) (hg:Grew okP w v xs w'):v.ownBlock≠some b:=fun e=>by
 have:=hg.2.1 b e 0 _ (h.cell 0 hc)
 cases this
def e7 (x:Bool × Int × Int):List Pt4:=if x.1=true then [(x.2.1,1,x.2.2,1)] else []
/-- The first ends of a list that count. -/
def enK (l:List (Bool × Int × Int)) (k:Nat):List Pt4:=(l.take k).flatMap e7
theorem enK_succ {l:List (Bool × Int × Int)} {k:Nat} {x:Bool × Int × Int} (h:l[k]?=some x):enK l (k+1)=enK l k ++ e7 x:=by
 unfold enK
 rw [List.take_add_one,h]
 simp
theorem enK_len (l:List (Bool × Int × Int)) (k:Nat):(enK l k).length≤k:=by
 induction k with
 | zero=>simp [enK]
 | succ k ih =>
  cases h:l[k]? with
  | none =>
   have:enK l (k+1)=enK l k:=by unfold enK; rw [List.take_add_one,h]; simp
   rw [this]; omega
  | some x =>
   rw [enK_succ h,List.length_append]
   have:(e7 x).length≤1:=by unfold e7; split <;> simp
   omega
def RW7 (B:Nat) (w:World) (v:Value) (L:List Pt4):Prop:=∃ CS:List Value,CS.length=L.length*8∧OwnR okP w B 37 8 v L.length CS∧Pl w CS L
theorem RW7.new {B:Nat} {w w':World} {v:Value} {L:List Pt4} (h:RW7 B w v L) (hb:Below w.heap.size w w'):RW7 B w' v L:=by
 obtain ⟨CS,h0,h1,h2⟩:=h
 exact ⟨CS,h0,OwnR.new h1 hb,h2.new hb⟩
theorem RW7.nil (B:Nat) (w:World):RW7 B w (.slice none 0 0) []:=⟨[],rfl,OwnR.nil _ _ _ _ _,fun k x h=>by cases h⟩
theorem RW7.app {B:Nat} {w w':World} {v v':Value} {L:List Pt4} {CS:List Value} {x y:Int} {sa:Bool} {Aa:Option Addr} {na ca:Nat} {ta:Bool} {Ba:Option Addr} {ma da:Nat} {sb:Bool} {Ab:Option Addr} {nb cb:Nat} {tb:Bool} {Bb:Option Addr} {mb db:Nat} (hl:CS.length=L.length*8) (hp:Pl w CS L) (ho:OwnR okP w' B 37 8 v' (L.length+1) (CS ++ [.bool sa,.slice Aa na ca,.bool ta,.slice Ba ma da,.bool sb,.slice Ab nb cb,.bool tb,.slice Bb mb db])) (hg:Grew okP w v CS w') (p1:PF w sa Aa na ca ta Ba ma da x 1) (p2:PF w sb Ab nb cb tb Bb mb db y 1) (f1:Fr x 1) (f2:Fr y 1):RW7 B w' v' (L ++ [(x,1,y,1)]):=by
 refine ⟨_,?_,by rw [List.length_append]; exact ho,?_⟩
 ·simp only [List.length_append,List.length_cons,List.length_nil]; omega
 ·intro k z hk
  by_cases h:k < L.length
  ·rw [List.getElem?_append_left h] at hk
   obtain ⟨sc,Ac,nc,cc,tc,Bc,mc,dc,sd,Ad,nd,cd,td,Bd,md,dd,h0,h1,h2,h3,h4,h5,h6,h7,q1,q2,g1,g2⟩:=hp k z hk
   refine ⟨sc,Ac,nc,cc,tc,Bc,mc,dc,sd,Ad,nd,cd,td,Bd,md,dd,?_,?_,?_,?_,?_,?_,?_,?_,PF.grow q1 hg (fun _=>rfl),PF.grow q2 hg (fun _=>rfl),g1,g2⟩ <;> rw [List.getElem?_append_left (by omega)] <;> assumption
  ·have hkl:k=L.length:=by
    have:k < (L ++ [(x,1,y,1)]).length:=(List.getElem?_eq_some_iff.1 hk).1
    simp at this; omega
   subst hkl
   rw [List.getElem?_append_right (Nat.le_refl _),Nat.sub_self] at hk
   injection hk with hk
   subst hk
   refine ⟨sa,Aa,na,ca,ta,Ba,ma,da,sb,Ab,nb,cb,tb,Bb,mb,db,?_,?_,?_,?_,?_,?_,?_,?_,PF.grow p1 hg (fun _=>rfl),PF.grow p2 hg (fun _=>rfl),f1,f2⟩ <;> rw [←hl,List.getElem?_append_right (by omega)] <;> simp
theorem fold_mem (f:Int→Bool):∀ (r:List Pt4) (a:Pt4),r.foldl (stL f) a=a∨r.foldl (stL f) a ∈ r
 | [],a=>.inl rfl
 | b :: r,a=>by
  show (r.foldl (stL f) (stL f a b))=a∨(r.foldl (stL f) (stL f a b)) ∈ b :: r
  have hs:stL f a b=a∨stL f a b=b:=by unfold stL; split; exact .inr rfl; exact .inl rfl
  rcases fold_mem f r (stL f a b) with h | h
  ·rw [h]
   rcases hs with e | e
   ·exact .inl e
   rw [e]; exact .inr (List.mem_cons_self ..)
  ·exact .inr (List.mem_cons_of_mem _ h)
theorem lsL_mem (f:Int→Bool) {L:List Pt4} (h:1≤L.length):lsL f L ∈ L:=by
 cases L with
 | nil=>cases h
 | cons a r =>
  rcases fold_mem f r a with e | e
  ·show r.foldl (stL f) a ∈ a :: r
   rw [e]; exact List.mem_cons_self ..
  ·exact List.mem_cons_of_mem _ e
theorem ls_fr {f:Int→Bool} {w:World} {cs:List Value} {L:List Pt4} {p q u v:Int} (h:Pl w cs L) (h1:1≤L.length) (e:lsL f L=(p,q,u,v)):Fr p q∧Fr u v:=by
 have hm:=lsL_mem f h1
 rw [e] at hm
 obtain ⟨k,hk⟩:=List.mem_iff_getElem?.1 hm
 obtain ⟨sa,Aa,na,ca,ta,Ba,ma,da,sb,Ab,nb,cb,tb,Bb,mb,db,h0,h1,h2,h3,h4,h5,h6,h7,p1,p2,f1,f2⟩:=h k _ hk
 exact ⟨f1,f2⟩
/-- A cut: its kind and its two points. -/
def RetCt7 (x:Int × Pt4 × Pt4) (w:World) (e:Ending) (w':World):Prop:=∃ (s0:Bool) (A0:Option Addr) (n0 c0:Nat) (t0:Bool) (B0:Option Addr) (m0 d0:Nat) (s1:Bool) (A1:Option Addr) (n1 c1:Nat) (t1:Bool) (B1:Option Addr) (m1 d1:Nat) (s2:Bool) (A2:Option Addr) (n2 c2:Nat) (t2:Bool) (B2:Option Addr) (m2 d2:Nat) (s3:Bool) (A3:Option Addr) (n3 c3:Nat) (t3:Bool) (B3:Option Addr) (m3 d3:Nat),e=.returned (.agg #[.int .i64 x.1,.bool s0,.slice A0 n0 c0,.bool t0,.slice B0 m0 d0,.bool s1,.slice A1 n1 c1,.bool t1,.slice B1 m1 d1,.bool s2,.slice A2 n2 c2,.bool t2,.slice B2 m2 d2,.bool s3,.slice A3 n3 c3,.bool t3,.slice B3 m3 d3])∧PF w' s0 A0 n0 c0 t0 B0 m0 d0 x.2.1.1 x.2.1.2.1∧PF w' s1 A1 n1 c1 t1 B1 m1 d1 x.2.1.2.2.1 x.2.1.2.2.2∧PF w' s2 A2 n2 c2 t2 B2 m2 d2 x.2.2.1 x.2.2.2.1∧PF w' s3 A3 n3 c3 t3 B3 m3 d3 x.2.2.2.2.1 x.2.2.2.2.2∧Below w.heap.size w w'
theorem pf_zero7 (w:World):PF w false none 0 0 false none 0 0 0 1:=⟨PI.zero w,PI.zero w⟩
theorem RetCt7.of {x y:Int × Pt4 × Pt4} {w w':World} {e:Ending} (h:y=x) (g:RetCt7 y w e w'):RetCt7 x w e w':=h ▸ g
/-- What two segments have in common, of which the ends in common are known. -/
def enC (L:List Pt4):Int × Pt4 × Pt4:=if pcP (lsL ltB L) (lsL gtB L)=0 then (1,lsL ltB L,(0,1,0,1)) else (2,lsL ltB L,lsL gtB L)
theorem enC_one {L:List Pt4} {a b:Pt4} (h1:lsL ltB L=a) (h2:lsL gtB L=b) (h:pcP a b=0):enC L=(1,a,(0,1,0,1)):=by
 subst h1; subst h2; exact if_pos h
theorem enC_two {L:List Pt4} {a b:Pt4} (h1:lsL ltB L=a) (h2:lsL gtB L=b) (h:¬ pcP a b=0):enC L=(2,a,b):=by
 subst h1; subst h2; exact if_neg h
theorem ixS0 (v0 v1 v2 v3 v4 v5 v6 v7 v8 v9 v10 v11 v12 v13 v14 v15:Value) (wx:World):(Instr.index 162 (.agg #[v0,v1,v2,v3,v4,v5,v6,v7,v8,v9,v10,v11,v12,v13,v14,v15]) (.int .i64 0)).run Tryz.prog wx=.ok (.agg #[v0,v1,v2,v3,v4,v5,v6,v7]) wx:=by
 simp [Instr.index,run_underlying Tryz.underlying162,asIntOf,go_sem]
theorem ixS1 (v0 v1 v2 v3 v4 v5 v6 v7 v8 v9 v10 v11 v12 v13 v14 v15:Value) (wx:World):(Instr.index 162 (.agg #[v0,v1,v2,v3,v4,v5,v6,v7,v8,v9,v10,v11,v12,v13,v14,v15]) (.int .i64 1)).run Tryz.prog wx=.ok (.agg #[v8,v9,v10,v11,v12,v13,v14,v15]) wx:=by
 simp [Instr.index,run_underlying Tryz.underlying162,asIntOf,go_sem]
theorem ixP0 (v0 v1 v2 v3:Value) (wx:World):(Instr.index 163 (.agg #[v0,v1,v2,v3]) (.int .i64 0)).run Tryz.prog wx=.ok (.agg #[v0,v1]) wx:=by
 simp [Instr.index,run_underlying Tryz.underlying163,asIntOf,go_sem]
theorem ixP1 (v0 v1 v2 v3:Value) (wx:World):(Instr.index 163 (.agg #[v0,v1,v2,v3]) (.int .i64 1)).run Tryz.prog wx=.ok (.agg #[v2,v3]) wx:=by
 simp [Instr.index,run_underlying Tryz.underlying163,asIntOf,go_sem]
attribute [local go_sem] ixS0 ixS1 ixP0 ixP1
set_option maxRecDepth 100000 in
set_option maxHeartbeats 12800000 in
theorem ends_any (ax ay bx by' cx cy dx dy:Int) (x:Int × Pt4 × Pt4) (w:World) (ha:(vdP (ax,ay)=0∧vdP (bx,by')=0)) (hb:(vdP (cx,cy)=0∧vdP (dx,dy)=0)) (hne:1≤(enK [(hoV cx cy dx dy ax ay,ax,ay),(hoV cx cy dx dy bx by',bx,by'),(hoV ax ay bx by' cx cy,cx,cy),(hoV ax ay bx by' dx dy,dx,dy)] 4).length) (hx:enC (enK [(hoV cx cy dx dy ax ay,ax,ay),(hoV cx cy dx dy bx by',bx,by'),(hoV ax ay bx by' cx cy,cx,cy),(hoV ax ay bx by' dx dy,dx,dy)] 4)=x) :
  Calls Tryz.prog 79 #[.agg #[.int .i64 ax,.int .i64 ay,.int .i64 bx,.int .i64 by'],.agg #[.int .i64 cx,.int .i64 cy,.int .i64 dx,.int .i64 dy]] w (RetCt7 x w):=by
 have HA:=hJ ha
 have HB:=hJ hb
 have aM:=hJ (And.intro (vd_wf ha.1) (vd_wf ha.2))
 have aO:=hJ (And.intro (vd_wf hb.1) (vd_wf hb.2))
 clear ha hb
 obtain ⟨hb0,hh0⟩:=nmz (hoV cx cy dx dy ax ay)
 have eC:=hJ hh0
 rw [hh0] at hne hx
 clear hh0
 obtain ⟨hb1,hh1⟩:=nmz (hoV cx cy dx dy bx by')
 have eD:=hJ hh1
 rw [hh1] at hne hx
 clear hh1
 obtain ⟨hb2,hh2⟩:=nmz (hoV ax ay bx by' cx cy)
 have eE:=hJ hh2
 rw [hh2] at hne hx
 clear hh2
 obtain ⟨hb3,hh3⟩:=nmz (hoV ax ay bx by' dx dy)
 have eF:=hJ hh3
 rw [hh3] at hne hx
 clear hh3
 obtain ⟨LE,hle⟩:=nmz ([(hb0,ax,ay),(hb1,bx,by'),(hb2,cx,cy),(hb3,dx,dy)])
 have aR:=hJ hle
 rw [hle] at hne hx
 have fC:=hJ hne
 have HX:=hJ hx
 clear hle hne hx
 obtain ⟨x1,bE⟩:=nmz (((w.alloc (.cells #[.int .i64 ax,.int .i64 ay,.int .i64 bx,.int .i64 by'] 25)).alloc (.cells #[.int .i64 cx,.int .i64 cy,.int .i64 dx,.int .i64 dy] 25)).alloc (.cells #[.int .i64 0,.bool false,.slice none 0 0,.bool false,.slice none 0 0,.bool false,.slice none 0 0,.bool false,.slice none 0 0,.bool false,.slice none 0 0,.bool false,.slice none 0 0,.bool false,.slice none 0 0,.bool false,.slice none 0 0] 39))
 have fD:=hJ (show Below w.heap.size w x1 by rw [←bE]; exact ((((Below.refl _ _).alloc (Nat.le_refl _) _).alloc (by simp only [World.size_alloc]; omega) _).alloc (by simp only [World.size_alloc]; omega) _))
 have eG:=hJ (show BX 25 x1 w.heap.size #[.int .i64 ax,.int .i64 ay,.int .i64 bx,.int .i64 by'] by rw [←bE]; exact (((BX.at rfl).alloc _).alloc _))
 have eH:=hJ (show BX 25 x1 (w.heap.size+1) #[.int .i64 cx,.int .i64 cy,.int .i64 dx,.int .i64 dy] by rw [←bE]; exact ((BX.at (by simp only [World.size_alloc])).alloc _))
 have eI:=hJ (show BX 39 x1 (w.heap.size+2) #[.int .i64 0,.bool false,.slice none 0 0,.bool false,.slice none 0 0,.bool false,.slice none 0 0,.bool false,.slice none 0 0,.bool false,.slice none 0 0,.bool false,.slice none 0 0,.bool false,.slice none 0 0,.bool false,.slice none 0 0] by rw [←bE]; exact (BX.at (by simp only [World.size_alloc])))
 have eJ:=hJ (show w.heap.size≤w.heap.size+2 by omega)
 have fE:=hJ (show RW7 x1.heap.size x1 (.slice none 0 0) (enK LE 0) from RW7.nil _ _)
 obtain ⟨fF,fG,fH,fI⟩:=eG.out.c4 0 1 2 3 rfl rfl rfl rfl
 obtain ⟨fJ,fK,fL,fM⟩:=eH.out.c4 0 1 2 3 rfl rfl rfl rfl
 obtain ⟨fN,fO,fP,fQ⟩:=eH.out.c4 0 1 2 3 rfl rfl rfl rfl
 obtain ⟨fR,fS,fT,fU⟩:=eG.out.c4 0 1 2 3 rfl rfl rfl rfl
 go_enter Tryz.func79,Tryz.ntmps79
 go_wp2_with fail
 clear bE fF fG fH fI fJ fK fL fM fN fO fP fQ fR fS fT fU
 go_loopw [19,5] (fun tv tx wr=>∃ (i:Nat) (vq:Value),vq=tx∧i≤2∧tv=.int .i64 (i:Int)∧Hid (RW7 x1.heap.size wr vq (enK LE (2*i)))∧Below x1.heap.size x1 wr) (fun tv _ _=>2 - (intOf tv).toNat)
 case atStart=>exact ⟨0,_,rfl,by omega,rfl,fE,(Below.refl _ _)⟩
 case round =>
  obtain ⟨i19,vq19,rfl,hi,rfl,cL,hbel⟩:=hrel
  obtain ⟨wl19,rfl⟩:∃ W:World,W=wr:=⟨_,rfl⟩
  have bF:=hJ hbel
  clear hbel
  have eK:=hJ (bt fD.out bF.out)
  have hcs:i19=0∨i19=1∨i19=2:=by omega
  clear hi
  rcases hcs with rfl | rfl | rfl
  ·(try rw [show ((0:Nat):Int)=0 from rfl])
   obtain ⟨x20,cM⟩:=nmz (wl19.alloc (.cells #[.int .i64 ax,.int .i64 ay,.int .i64 bx,.int .i64 by',.int .i64 cx,.int .i64 cy,.int .i64 dx,.int .i64 dy] 28))
   have eL:=hJ (show Below wl19.heap.size wl19 x20 by rw [←cM]; exact ((Below.refl _ _).alloc (Nat.le_refl _) _))
   have cN:=hJ (show BX 28 x20 wl19.heap.size #[.int .i64 ax,.int .i64 ay,.int .i64 bx,.int .i64 by',.int .i64 cx,.int .i64 cy,.int .i64 dx,.int .i64 dy] by rw [←cM]; exact (BX.at rfl))
   obtain ⟨fV,fW⟩:=cN.out.c2 0 1 rfl rfl
   obtain ⟨fX,fY⟩:=cN.out.c2 2 3 rfl rfl
   have fZ:=hJ (RW7.new cL.out eL.out)
   have cO:=hJ (bt bF.out eL.out)
   go_wp2_with fail
   clear cM fV fW fX fY
   go_loopw [29,5] (fun tv tx wr=>∃ (i:Nat) (vq:Value),vq=tx∧i≤2∧tv=.int .i64 (i:Int)∧Hid (RW7 x1.heap.size wr vq (enK LE (0+i)))∧Hid (BX 28 wr wl19.heap.size #[.int .i64 ax,.int .i64 ay,.int .i64 bx,.int .i64 by',.int .i64 cx,.int .i64 cy,.int .i64 dx,.int .i64 dy])∧Below x1.heap.size x1 wr) (fun tv _ _=>2 - (intOf tv).toNat)
   case atStart=>exact ⟨0,_,rfl,by omega,rfl,fZ,cN,cO.out⟩
   case round =>
    obtain ⟨i26,vq26,rfl,hi,rfl,bG,bX,hbel⟩:=hrel
    obtain ⟨wl26,rfl⟩:∃ W:World,W=wr:=⟨_,rfl⟩
    have bH:=hJ hbel
    clear hbel
    have hcs:i26=0∨i26=1∨i26=2:=by omega
    clear hi
    rcases hcs with rfl | rfl | rfl
    ·(try rw [show ((0:Nat):Int)=0 from rfl])
     obtain ⟨x27,bY⟩:=nmz (wl26.alloc (.cells #[.int .i64 ax,.int .i64 ay] 23))
     have aY:=hJ (show Below wl26.heap.size wl26 x27 by rw [←bY]; exact ((Below.refl _ _).alloc (Nat.le_refl _) _))
     have cP:=hJ (show BX 23 x27 wl26.heap.size #[.int .i64 ax,.int .i64 ay] by rw [←bY]; exact (BX.at rfl))
     rcases (show hb0=true∨hb0=false by cases hb0 <;> simp) with hc | hc
     ·obtain rfl:=hc
      have aG:=hJ (BX.new bX.out aY.out)
      obtain ⟨gA,gB,gC,gD⟩:=aG.out.c4 4 5 6 7 rfl rfl rfl rfl
      obtain ⟨gE,gF⟩:=cP.out.c2 0 1 rfl rfl
      go_wp2_with fail
      clear bY gA gB gC gD gE gF
      refine (holds_any cx cy dx dy ax ay x27 ⟨HB.out.1,HB.out.2,HA.out.1⟩).mono ?_
      rw [eC.out]
      rintro e w34 ⟨rfl,hb⟩
      have bZ:=hJ hb
      clear hb
      have gG:=hJ (BX.new cP.out bZ.out)
      obtain ⟨gH,gI⟩:=gG.out.c2 0 1 rfl rfl
      go_wp2_with fail
      clear gH gI
      refine (pof_any ax ay w34 aM.out.1.1 aM.out.1.2).mono ?_
      rintro e w37 ⟨s11,A11,n11,c11,t11,B11,m11,d11,s12,A12,n12,c12,t12,B12,m12,d12,rfl,hr11,hr12,hb⟩
      have cQ:=hJ hb
      have gJ:=hJ hr11
      have gK:=hJ hr12
      clear hb hr11 hr12
      obtain ⟨x38,cR⟩:=nmz (w37.alloc (.cells #[.bool s11,.slice A11 n11 c11,.bool t11,.slice B11 m11 d11,.bool s12,.slice A12 n12 c12,.bool t12,.slice B12 m12 d12] 37))
      have bJ:=hJ (show Below w37.heap.size w37 x38 by rw [←cR]; exact ((Below.refl _ _).alloc (Nat.le_refl _) _))
      have gL:=hJ (show BX 37 x38 w37.heap.size #[.bool s11,.slice A11 n11 c11,.bool t11,.slice B11 m11 d11,.bool s12,.slice A12 n12 c12,.bool t12,.slice B12 m12 d12] by rw [←cR]; exact (BX.at rfl))
      obtain ⟨i37,hi37,hz37,hs37,hy37⟩:=info_parts (show (Tryz.prog.info? 37).map (fun i=>(i.zero,i.size,i.bytes))=some (some (.agg #[.bool false,.slice none 0 0,.bool false,.slice none 0 0,.bool false,.slice none 0 0,.bool false,.slice none 0 0]),8,128) by kernel_rfl)
      have aA:=hJ (And.intro hi37 (And.intro hz37 (And.intro hs37 hy37)))
      clear hi37 hz37 hs37 hy37
      have aT:=hJ (bt (bt (bt aY.out bZ.out) cQ.out) bJ.out)
      have gM:=hJ (RW7.new bG.out aT.out)
      have gN:=hJ (PF.new gJ.out bJ.out)
      have gO:=hJ (PF.new gK.out bJ.out)
      have aB:=hJ (bt (bt (bt (bt bH.out aY.out) bZ.out) cQ.out) bJ.out)
      obtain ⟨CS40,hl,ho,hp⟩:=(show RW7 x1.heap.size x38 vq26 (enK LE 0) from gM.out)
      have gP:=hJ hl
      have eM:=hJ ho
      have gQ:=hJ hp
      have hn4:(enK LE 0).length≤0:=enK_len _ _
      clear hl ho hp
      go_wp2_with (at_builtin; refine wpList_append_okw okP rfl _ _ 63 rfl x1.heap.size 37 i37 _ 8 128 Tryz.underlying63 aA.out.1 aA.out.2.1 aA.out.2.2.1 aA.out.2.2.2 rfl rfl (by decide) vq26 (enK LE 0).length CS40 rfl eM.out ⟨w37.heap.size,0,none⟩ 1 1 [.bool s11,.slice A11 n11 c11,.bool t11,.slice B11 m11 d11,.bool s12,.slice A12 n12 c12,.bool t12,.slice B12 m12 d12] rfl rfl (BX.news gL.out) (List.all_eq_true (p:=Value.oneCell')|>.1 rfl) rfl (by unfold maxLen; omega) (by omega) (aB.out).size (by decide) ?_; intro va wa hown hgrow hwh; refine stop_h7 (fun q aH=>?_))
      clear cR
      rw [aH.out]
      clear aH q hwh hn4
      obtain ⟨w40,rfl⟩:∃ W,W=wa:=⟨_,rfl⟩
      obtain ⟨vr40,rfl⟩:∃ z,z=va:=⟨_,rfl⟩
      have gR:=hJ (show RW7 x1.heap.size w40 vr40 (enK LE 1) by
       rw [enK_succ (x:=(true,ax,ay)) (k:=0) (by rw [←aR.out]; rfl)]
       exact RW7.app gP.out gQ.out hown hgrow gN.out gO.out (int_fr aM.out.1.1) (int_fr aM.out.1.2))
      have cS:=hJ hgrow
      clear hown hgrow
      have aU:=hJ (show Below x1.heap.size x1 w40 from Grew.below aB.out cS.out eM.out (Nat.le_refl _) (aB.out).size)
      have aV:=hJ (bt (bt bZ.out cQ.out) bJ.out)
      have bK:=hJ (BX.new aG.out aV.out)
      have cT:=hJ (show BX 28 w40 wl19.heap.size #[.int .i64 ax,.int .i64 ay,.int .i64 bx,.int .i64 by',.int .i64 cx,.int .i64 cy,.int .i64 dx,.int .i64 dy] from BX.grow bK.out cS.out (own_int bK.out rfl cS.out))
      go_wp2_with fail
      go_roundw
      case rel=>exact ⟨0+1,_,rfl,by omega,by go_num,hJ (show RW7 x1.heap.size w40 vr40 (enK LE 1) from gR.out),cT,aU.out⟩
      case measure=>simp [intOf] <;> omega
     obtain rfl:=hc
     have aG:=hJ (BX.new bX.out aY.out)
     obtain ⟨gS,gT,gU,gV⟩:=aG.out.c4 4 5 6 7 rfl rfl rfl rfl
     obtain ⟨gW,gX⟩:=cP.out.c2 0 1 rfl rfl
     go_wp2_with fail
     clear bY gS gT gU gV gW gX
     refine (holds_any cx cy dx dy ax ay x27 ⟨HB.out.1,HB.out.2,HA.out.1⟩).mono ?_
     rw [eC.out]
     rintro e w47 ⟨rfl,hb⟩
     have cU:=hJ hb
     clear hb
     have aI:=hJ (bt (bt bH.out aY.out) cU.out)
     have aW:=hJ (bt aY.out cU.out)
     have gY:=hJ (RW7.new bG.out aW.out)
     have cV:=hJ (BX.new aG.out cU.out)
     go_wp2_with fail
     go_roundw
     case rel=>exact ⟨0+1,_,rfl,by omega,by go_num,hJ (show RW7 x1.heap.size w47 vq26 (enK LE 1) by rw [enK_succ (x:=(false,ax,ay)) (k:=0) (by rw [←aR.out]; rfl),show e7 (false,ax,ay)=[] from rfl,List.append_nil]; exact gY.out),cV,aI.out⟩
     case measure=>simp [intOf] <;> omega
    ·(try rw [show ((1:Nat):Int)=1 from rfl])
     obtain ⟨x49,cA⟩:=nmz (wl26.alloc (.cells #[.int .i64 bx,.int .i64 by'] 23))
     have aZ:=hJ (show Below wl26.heap.size wl26 x49 by rw [←cA]; exact ((Below.refl _ _).alloc (Nat.le_refl _) _))
     have cW:=hJ (show BX 23 x49 wl26.heap.size #[.int .i64 bx,.int .i64 by'] by rw [←cA]; exact (BX.at rfl))
     rcases (show hb1=true∨hb1=false by cases hb1 <;> simp) with hc | hc
     ·obtain rfl:=hc
      have aG:=hJ (BX.new bX.out aZ.out)
      obtain ⟨gZ,hA,hB,hC⟩:=aG.out.c4 4 5 6 7 rfl rfl rfl rfl
      obtain ⟨hD,hE⟩:=cW.out.c2 0 1 rfl rfl
      go_wp2_with fail
      clear cA gZ hA hB hC hD hE
      refine (holds_any cx cy dx dy bx by' x49 ⟨HB.out.1,HB.out.2,HA.out.2⟩).mono ?_
      rw [eD.out]
      rintro e w56 ⟨rfl,hb⟩
      have cB:=hJ hb
      clear hb
      have hF:=hJ (BX.new cW.out cB.out)
      obtain ⟨hG,hH⟩:=hF.out.c2 0 1 rfl rfl
      go_wp2_with fail
      clear hG hH
      refine (pof_any bx by' w56 aM.out.2.1 aM.out.2.2).mono ?_
      rintro e w59 ⟨s13,A13,n13,c13,t13,B13,m13,d13,s14,A14,n14,c14,t14,B14,m14,d14,rfl,hr13,hr14,hb⟩
      have cX:=hJ hb
      have hI:=hJ hr13
      have hK:=hJ hr14
      clear hb hr13 hr14
      obtain ⟨x60,cY⟩:=nmz (w59.alloc (.cells #[.bool s13,.slice A13 n13 c13,.bool t13,.slice B13 m13 d13,.bool s14,.slice A14 n14 c14,.bool t14,.slice B14 m14 d14] 37))
      have bL:=hJ (show Below w59.heap.size w59 x60 by rw [←cY]; exact ((Below.refl _ _).alloc (Nat.le_refl _) _))
      have hL:=hJ (show BX 37 x60 w59.heap.size #[.bool s13,.slice A13 n13 c13,.bool t13,.slice B13 m13 d13,.bool s14,.slice A14 n14 c14,.bool t14,.slice B14 m14 d14] by rw [←cY]; exact (BX.at rfl))
      obtain ⟨i37,hi37,hz37,hs37,hy37⟩:=info_parts (show (Tryz.prog.info? 37).map (fun i=>(i.zero,i.size,i.bytes))=some (some (.agg #[.bool false,.slice none 0 0,.bool false,.slice none 0 0,.bool false,.slice none 0 0,.bool false,.slice none 0 0]),8,128) by kernel_rfl)
      have aA:=hJ (And.intro hi37 (And.intro hz37 (And.intro hs37 hy37)))
      clear hi37 hz37 hs37 hy37
      have aT:=hJ (bt (bt (bt aZ.out cB.out) cX.out) bL.out)
      have hM:=hJ (RW7.new bG.out aT.out)
      have hN:=hJ (PF.new hI.out bL.out)
      have hO:=hJ (PF.new hK.out bL.out)
      have aB:=hJ (bt (bt (bt (bt bH.out aZ.out) cB.out) cX.out) bL.out)
      obtain ⟨CS62,hl,ho,hp⟩:=(show RW7 x1.heap.size x60 vq26 (enK LE 1) from hM.out)
      have hP:=hJ hl
      have eN:=hJ ho
      have hQ:=hJ hp
      have hn4:(enK LE 1).length≤1:=enK_len _ _
      clear hl ho hp
      go_wp2_with (at_builtin; refine wpList_append_okw okP rfl _ _ 63 rfl x1.heap.size 37 i37 _ 8 128 Tryz.underlying63 aA.out.1 aA.out.2.1 aA.out.2.2.1 aA.out.2.2.2 rfl rfl (by decide) vq26 (enK LE 1).length CS62 rfl eN.out ⟨w59.heap.size,0,none⟩ 1 1 [.bool s13,.slice A13 n13 c13,.bool t13,.slice B13 m13 d13,.bool s14,.slice A14 n14 c14,.bool t14,.slice B14 m14 d14] rfl rfl (BX.news hL.out) (List.all_eq_true (p:=Value.oneCell')|>.1 rfl) rfl (by unfold maxLen; omega) (by omega) (aB.out).size (by decide) ?_; intro va wa hown hgrow hwh; refine stop_h7 (fun q aH=>?_))
      clear cY
      rw [aH.out]
      clear aH q hwh hn4
      obtain ⟨w62,rfl⟩:∃ W,W=wa:=⟨_,rfl⟩
      obtain ⟨vr62,rfl⟩:∃ z,z=va:=⟨_,rfl⟩
      have hR:=hJ (show RW7 x1.heap.size w62 vr62 (enK LE 2) by
       rw [enK_succ (x:=(true,bx,by')) (k:=1) (by rw [←aR.out]; rfl)]
       exact RW7.app hP.out hQ.out hown hgrow hN.out hO.out (int_fr aM.out.2.1) (int_fr aM.out.2.2))
      have cZ:=hJ hgrow
      clear hown hgrow
      have aU:=hJ (show Below x1.heap.size x1 w62 from Grew.below aB.out cZ.out eN.out (Nat.le_refl _) (aB.out).size)
      have aV:=hJ (bt (bt cB.out cX.out) bL.out)
      have bK:=hJ (BX.new aG.out aV.out)
      have cT:=hJ (show BX 28 w62 wl19.heap.size #[.int .i64 ax,.int .i64 ay,.int .i64 bx,.int .i64 by',.int .i64 cx,.int .i64 cy,.int .i64 dx,.int .i64 dy] from BX.grow bK.out cZ.out (own_int bK.out rfl cZ.out))
      go_wp2_with fail
      go_roundw
      case rel=>exact ⟨1+1,_,rfl,by omega,by go_num,hJ (show RW7 x1.heap.size w62 vr62 (enK LE 2) from hR.out),cT,aU.out⟩
      case measure=>simp [intOf] <;> omega
     obtain rfl:=hc
     have aG:=hJ (BX.new bX.out aZ.out)
     obtain ⟨hS,hT,hU,hV⟩:=aG.out.c4 4 5 6 7 rfl rfl rfl rfl
     obtain ⟨hW,hX⟩:=cW.out.c2 0 1 rfl rfl
     go_wp2_with fail
     clear cA hS hT hU hV hW hX
     refine (holds_any cx cy dx dy bx by' x49 ⟨HB.out.1,HB.out.2,HA.out.2⟩).mono ?_
     rw [eD.out]
     rintro e w69 ⟨rfl,hb⟩
     have dA:=hJ hb
     clear hb
     have aI:=hJ (bt (bt bH.out aZ.out) dA.out)
     have aW:=hJ (bt aZ.out dA.out)
     have hY:=hJ (RW7.new bG.out aW.out)
     have cV:=hJ (BX.new aG.out dA.out)
     go_wp2_with fail
     go_roundw
     case rel=>exact ⟨1+1,_,rfl,by omega,by go_num,hJ (show RW7 x1.heap.size w69 vq26 (enK LE 2) by rw [enK_succ (x:=(false,bx,by')) (k:=1) (by rw [←aR.out]; rfl),show e7 (false,bx,by')=[] from rfl,List.append_nil]; exact hY.out),cV,aI.out⟩
     case measure=>simp [intOf] <;> omega
    (try rw [show ((2:Nat):Int)=2 from rfl])
    go_wp2_with fail
    go_roundw
    case rel=>exact ⟨0+1,_,rfl,by omega,by go_num,hJ (show RW7 x1.heap.size wl26 vq26 (enK LE 2) from bG.out),bH.out⟩
    case measure=>simp [intOf] <;> omega
  ·(try rw [show ((1:Nat):Int)=1 from rfl])
   obtain ⟨x71,dB⟩:=nmz (wl19.alloc (.cells #[.int .i64 cx,.int .i64 cy,.int .i64 dx,.int .i64 dy,.int .i64 ax,.int .i64 ay,.int .i64 bx,.int .i64 by'] 28))
   have eO:=hJ (show Below wl19.heap.size wl19 x71 by rw [←dB]; exact ((Below.refl _ _).alloc (Nat.le_refl _) _))
   have dD:=hJ (show BX 28 x71 wl19.heap.size #[.int .i64 cx,.int .i64 cy,.int .i64 dx,.int .i64 dy,.int .i64 ax,.int .i64 ay,.int .i64 bx,.int .i64 by'] by rw [←dB]; exact (BX.at rfl))
   obtain ⟨hZ,iA⟩:=dD.out.c2 0 1 rfl rfl
   obtain ⟨iB,iC⟩:=dD.out.c2 2 3 rfl rfl
   have iD:=hJ (RW7.new cL.out eO.out)
   have cO:=hJ (bt bF.out eO.out)
   go_wp2_with fail
   clear dB hZ iA iB iC
   go_loopw [29,5] (fun tv tx wr=>∃ (i:Nat) (vq:Value),vq=tx∧i≤2∧tv=.int .i64 (i:Int)∧Hid (RW7 x1.heap.size wr vq (enK LE (2+i)))∧Hid (BX 28 wr wl19.heap.size #[.int .i64 cx,.int .i64 cy,.int .i64 dx,.int .i64 dy,.int .i64 ax,.int .i64 ay,.int .i64 bx,.int .i64 by'])∧Below x1.heap.size x1 wr) (fun tv _ _=>2 - (intOf tv).toNat)
   case atStart=>exact ⟨0,_,rfl,by omega,rfl,iD,dD,cO.out⟩
   case round =>
    obtain ⟨i77,vq77,rfl,hi,rfl,bM,cC,hbel⟩:=hrel
    obtain ⟨wl77,rfl⟩:∃ W:World,W=wr:=⟨_,rfl⟩
    have bN:=hJ hbel
    clear hbel
    have hcs:i77=0∨i77=1∨i77=2:=by omega
    clear hi
    rcases hcs with rfl | rfl | rfl
    ·(try rw [show ((0:Nat):Int)=0 from rfl])
     obtain ⟨x78,cD⟩:=nmz (wl77.alloc (.cells #[.int .i64 cx,.int .i64 cy] 23))
     have bA:=hJ (show Below wl77.heap.size wl77 x78 by rw [←cD]; exact ((Below.refl _ _).alloc (Nat.le_refl _) _))
     have dE:=hJ (show BX 23 x78 wl77.heap.size #[.int .i64 cx,.int .i64 cy] by rw [←cD]; exact (BX.at rfl))
     rcases (show hb2=true∨hb2=false by cases hb2 <;> simp) with hc | hc
     ·obtain rfl:=hc
      have aJ:=hJ (BX.new cC.out bA.out)
      obtain ⟨iE,iF,iG,iH⟩:=aJ.out.c4 4 5 6 7 rfl rfl rfl rfl
      obtain ⟨iI,iJ⟩:=dE.out.c2 0 1 rfl rfl
      go_wp2_with fail
      clear cD iE iF iG iH iI iJ
      refine (holds_any ax ay bx by' cx cy x78 ⟨HA.out.1,HA.out.2,HB.out.1⟩).mono ?_
      rw [eE.out]
      rintro e w85 ⟨rfl,hb⟩
      have cE:=hJ hb
      clear hb
      have iK:=hJ (BX.new dE.out cE.out)
      obtain ⟨iL,iM⟩:=iK.out.c2 0 1 rfl rfl
      go_wp2_with fail
      clear iL iM
      refine (pof_any cx cy w85 aO.out.1.1 aO.out.1.2).mono ?_
      rintro e w88 ⟨s15,A15,n15,c15,t15,B15,m15,d15,s16,A16,n16,c16,t16,B16,m16,d16,rfl,hr15,hr16,hb⟩
      have dG:=hJ hb
      have iN:=hJ hr15
      have iO:=hJ hr16
      clear hb hr15 hr16
      obtain ⟨x89,dH⟩:=nmz (w88.alloc (.cells #[.bool s15,.slice A15 n15 c15,.bool t15,.slice B15 m15 d15,.bool s16,.slice A16 n16 c16,.bool t16,.slice B16 m16 d16] 37))
      have bO:=hJ (show Below w88.heap.size w88 x89 by rw [←dH]; exact ((Below.refl _ _).alloc (Nat.le_refl _) _))
      have iP:=hJ (show BX 37 x89 w88.heap.size #[.bool s15,.slice A15 n15 c15,.bool t15,.slice B15 m15 d15,.bool s16,.slice A16 n16 c16,.bool t16,.slice B16 m16 d16] by rw [←dH]; exact (BX.at rfl))
      obtain ⟨i37,hi37,hz37,hs37,hy37⟩:=info_parts (show (Tryz.prog.info? 37).map (fun i=>(i.zero,i.size,i.bytes))=some (some (.agg #[.bool false,.slice none 0 0,.bool false,.slice none 0 0,.bool false,.slice none 0 0,.bool false,.slice none 0 0]),8,128) by kernel_rfl)
      have aA:=hJ (And.intro hi37 (And.intro hz37 (And.intro hs37 hy37)))
      clear hi37 hz37 hs37 hy37
      have aT:=hJ (bt (bt (bt bA.out cE.out) dG.out) bO.out)
      have iQ:=hJ (RW7.new bM.out aT.out)
      have iR:=hJ (PF.new iN.out bO.out)
      have iS:=hJ (PF.new iO.out bO.out)
      have aB:=hJ (bt (bt (bt (bt bN.out bA.out) cE.out) dG.out) bO.out)
      obtain ⟨CS91,hl,ho,hp⟩:=(show RW7 x1.heap.size x89 vq77 (enK LE 2) from iQ.out)
      have iT:=hJ hl
      have eP:=hJ ho
      have iU:=hJ hp
      have hn4:(enK LE 2).length≤2:=enK_len _ _
      clear hl ho hp
      go_wp2_with (at_builtin; refine wpList_append_okw okP rfl _ _ 63 rfl x1.heap.size 37 i37 _ 8 128 Tryz.underlying63 aA.out.1 aA.out.2.1 aA.out.2.2.1 aA.out.2.2.2 rfl rfl (by decide) vq77 (enK LE 2).length CS91 rfl eP.out ⟨w88.heap.size,0,none⟩ 1 1 [.bool s15,.slice A15 n15 c15,.bool t15,.slice B15 m15 d15,.bool s16,.slice A16 n16 c16,.bool t16,.slice B16 m16 d16] rfl rfl (BX.news iP.out) (List.all_eq_true (p:=Value.oneCell')|>.1 rfl) rfl (by unfold maxLen; omega) (by omega) (aB.out).size (by decide) ?_; intro va wa hown hgrow hwh; refine stop_h7 (fun q aH=>?_))
      clear dH
      rw [aH.out]
      clear aH q hwh hn4
      obtain ⟨w91,rfl⟩:∃ W,W=wa:=⟨_,rfl⟩
      obtain ⟨vr91,rfl⟩:∃ z,z=va:=⟨_,rfl⟩
      have iV:=hJ (show RW7 x1.heap.size w91 vr91 (enK LE 3) by
       rw [enK_succ (x:=(true,cx,cy)) (k:=2) (by rw [←aR.out]; rfl)]
       exact RW7.app iT.out iU.out hown hgrow iR.out iS.out (int_fr aO.out.1.1) (int_fr aO.out.1.2))
      have dI:=hJ hgrow
      clear hown hgrow
      have aU:=hJ (show Below x1.heap.size x1 w91 from Grew.below aB.out dI.out eP.out (Nat.le_refl _) (aB.out).size)
      have aV:=hJ (bt (bt cE.out dG.out) bO.out)
      have bP:=hJ (BX.new aJ.out aV.out)
      have dJ:=hJ (show BX 28 w91 wl19.heap.size #[.int .i64 cx,.int .i64 cy,.int .i64 dx,.int .i64 dy,.int .i64 ax,.int .i64 ay,.int .i64 bx,.int .i64 by'] from BX.grow bP.out dI.out (own_int bP.out rfl dI.out))
      go_wp2_with fail
      go_roundw
      case rel=>exact ⟨0+1,_,rfl,by omega,by go_num,hJ (show RW7 x1.heap.size w91 vr91 (enK LE 3) from iV.out),dJ,aU.out⟩
      case measure=>simp [intOf] <;> omega
     obtain rfl:=hc
     have aJ:=hJ (BX.new cC.out bA.out)
     obtain ⟨iW,iX,iY,iZ⟩:=aJ.out.c4 4 5 6 7 rfl rfl rfl rfl
     obtain ⟨jA,jB⟩:=dE.out.c2 0 1 rfl rfl
     go_wp2_with fail
     clear cD iW iX iY iZ jA jB
     refine (holds_any ax ay bx by' cx cy x78 ⟨HA.out.1,HA.out.2,HB.out.1⟩).mono ?_
     rw [eE.out]
     rintro e w98 ⟨rfl,hb⟩
     have dK:=hJ hb
     clear hb
     have aI:=hJ (bt (bt bN.out bA.out) dK.out)
     have aW:=hJ (bt bA.out dK.out)
     have jC:=hJ (RW7.new bM.out aW.out)
     have dL:=hJ (BX.new aJ.out dK.out)
     go_wp2_with fail
     go_roundw
     case rel=>exact ⟨0+1,_,rfl,by omega,by go_num,hJ (show RW7 x1.heap.size w98 vq77 (enK LE 3) by rw [enK_succ (x:=(false,cx,cy)) (k:=2) (by rw [←aR.out]; rfl),show e7 (false,cx,cy)=[] from rfl,List.append_nil]; exact jC.out),dL,aI.out⟩
     case measure=>simp [intOf] <;> omega
    ·(try rw [show ((1:Nat):Int)=1 from rfl])
     obtain ⟨x100,cF⟩:=nmz (wl77.alloc (.cells #[.int .i64 dx,.int .i64 dy] 23))
     have bB:=hJ (show Below wl77.heap.size wl77 x100 by rw [←cF]; exact ((Below.refl _ _).alloc (Nat.le_refl _) _))
     have dM:=hJ (show BX 23 x100 wl77.heap.size #[.int .i64 dx,.int .i64 dy] by rw [←cF]; exact (BX.at rfl))
     rcases (show hb3=true∨hb3=false by cases hb3 <;> simp) with hc | hc
     ·obtain rfl:=hc
      have aJ:=hJ (BX.new cC.out bB.out)
      obtain ⟨jD,jE,jF,jG⟩:=aJ.out.c4 4 5 6 7 rfl rfl rfl rfl
      obtain ⟨jH,jI⟩:=dM.out.c2 0 1 rfl rfl
      go_wp2_with fail
      clear cF jD jE jF jG jH jI
      refine (holds_any ax ay bx by' dx dy x100 ⟨HA.out.1,HA.out.2,HB.out.2⟩).mono ?_
      rw [eF.out]
      rintro e w107 ⟨rfl,hb⟩
      have cG:=hJ hb
      clear hb
      have jJ:=hJ (BX.new dM.out cG.out)
      obtain ⟨jK,jL⟩:=jJ.out.c2 0 1 rfl rfl
      go_wp2_with fail
      clear jK jL
      refine (pof_any dx dy w107 aO.out.2.1 aO.out.2.2).mono ?_
      rintro e w110 ⟨s17,A17,n17,c17,t17,B17,m17,d17,s18,A18,n18,c18,t18,B18,m18,d18,rfl,hr17,hr18,hb⟩
      have dN:=hJ hb
      have jM:=hJ hr17
      have jN:=hJ hr18
      clear hb hr17 hr18
      obtain ⟨x111,dO⟩:=nmz (w110.alloc (.cells #[.bool s17,.slice A17 n17 c17,.bool t17,.slice B17 m17 d17,.bool s18,.slice A18 n18 c18,.bool t18,.slice B18 m18 d18] 37))
      have bQ:=hJ (show Below w110.heap.size w110 x111 by rw [←dO]; exact ((Below.refl _ _).alloc (Nat.le_refl _) _))
      have jO:=hJ (show BX 37 x111 w110.heap.size #[.bool s17,.slice A17 n17 c17,.bool t17,.slice B17 m17 d17,.bool s18,.slice A18 n18 c18,.bool t18,.slice B18 m18 d18] by rw [←dO]; exact (BX.at rfl))
      obtain ⟨i37,hi37,hz37,hs37,hy37⟩:=info_parts (show (Tryz.prog.info? 37).map (fun i=>(i.zero,i.size,i.bytes))=some (some (.agg #[.bool false,.slice none 0 0,.bool false,.slice none 0 0,.bool false,.slice none 0 0,.bool false,.slice none 0 0]),8,128) by kernel_rfl)
      have aA:=hJ (And.intro hi37 (And.intro hz37 (And.intro hs37 hy37)))
      clear hi37 hz37 hs37 hy37
      have aT:=hJ (bt (bt (bt bB.out cG.out) dN.out) bQ.out)
      have jP:=hJ (RW7.new bM.out aT.out)
      have jQ:=hJ (PF.new jM.out bQ.out)
      have jR:=hJ (PF.new jN.out bQ.out)
      have aB:=hJ (bt (bt (bt (bt bN.out bB.out) cG.out) dN.out) bQ.out)
      obtain ⟨CS113,hl,ho,hp⟩:=(show RW7 x1.heap.size x111 vq77 (enK LE 3) from jP.out)
      have jS:=hJ hl
      have eQ:=hJ ho
      have jT:=hJ hp
      have hn4:(enK LE 3).length≤3:=enK_len _ _
      clear hl ho hp
      go_wp2_with (at_builtin; refine wpList_append_okw okP rfl _ _ 63 rfl x1.heap.size 37 i37 _ 8 128 Tryz.underlying63 aA.out.1 aA.out.2.1 aA.out.2.2.1 aA.out.2.2.2 rfl rfl (by decide) vq77 (enK LE 3).length CS113 rfl eQ.out ⟨w110.heap.size,0,none⟩ 1 1 [.bool s17,.slice A17 n17 c17,.bool t17,.slice B17 m17 d17,.bool s18,.slice A18 n18 c18,.bool t18,.slice B18 m18 d18] rfl rfl (BX.news jO.out) (List.all_eq_true (p:=Value.oneCell')|>.1 rfl) rfl (by unfold maxLen; omega) (by omega) (aB.out).size (by decide) ?_; intro va wa hown hgrow hwh; refine stop_h7 (fun q aH=>?_))
      clear dO
      rw [aH.out]
      clear aH q hwh hn4
      obtain ⟨w113,rfl⟩:∃ W,W=wa:=⟨_,rfl⟩
      obtain ⟨vr113,rfl⟩:∃ z,z=va:=⟨_,rfl⟩
      have jU:=hJ (show RW7 x1.heap.size w113 vr113 (enK LE 4) by
       rw [enK_succ (x:=(true,dx,dy)) (k:=3) (by rw [←aR.out]; rfl)]
       exact RW7.app jS.out jT.out hown hgrow jQ.out jR.out (int_fr aO.out.2.1) (int_fr aO.out.2.2))
      have dP:=hJ hgrow
      clear hown hgrow
      have aU:=hJ (show Below x1.heap.size x1 w113 from Grew.below aB.out dP.out eQ.out (Nat.le_refl _) (aB.out).size)
      have aV:=hJ (bt (bt cG.out dN.out) bQ.out)
      have bP:=hJ (BX.new aJ.out aV.out)
      have dJ:=hJ (show BX 28 w113 wl19.heap.size #[.int .i64 cx,.int .i64 cy,.int .i64 dx,.int .i64 dy,.int .i64 ax,.int .i64 ay,.int .i64 bx,.int .i64 by'] from BX.grow bP.out dP.out (own_int bP.out rfl dP.out))
      go_wp2_with fail
      go_roundw
      case rel=>exact ⟨1+1,_,rfl,by omega,by go_num,hJ (show RW7 x1.heap.size w113 vr113 (enK LE 4) from jU.out),dJ,aU.out⟩
      case measure=>simp [intOf] <;> omega
     obtain rfl:=hc
     have aJ:=hJ (BX.new cC.out bB.out)
     obtain ⟨jV,jW,jX,jY⟩:=aJ.out.c4 4 5 6 7 rfl rfl rfl rfl
     obtain ⟨jZ,kA⟩:=dM.out.c2 0 1 rfl rfl
     go_wp2_with fail
     clear cF jV jW jX jY jZ kA
     refine (holds_any ax ay bx by' dx dy x100 ⟨HA.out.1,HA.out.2,HB.out.2⟩).mono ?_
     rw [eF.out]
     rintro e w120 ⟨rfl,hb⟩
     have dQ:=hJ hb
     clear hb
     have aI:=hJ (bt (bt bN.out bB.out) dQ.out)
     have aW:=hJ (bt bB.out dQ.out)
     have kB:=hJ (RW7.new bM.out aW.out)
     have dL:=hJ (BX.new aJ.out dQ.out)
     go_wp2_with fail
     go_roundw
     case rel=>exact ⟨1+1,_,rfl,by omega,by go_num,hJ (show RW7 x1.heap.size w120 vq77 (enK LE 4) by rw [enK_succ (x:=(false,dx,dy)) (k:=3) (by rw [←aR.out]; rfl),show e7 (false,dx,dy)=[] from rfl,List.append_nil]; exact kB.out),dL,aI.out⟩
     case measure=>simp [intOf] <;> omega
    (try rw [show ((2:Nat):Int)=2 from rfl])
    go_wp2_with fail
    go_roundw
    case rel=>exact ⟨1+1,_,rfl,by omega,by go_num,hJ (show RW7 x1.heap.size wl77 vq77 (enK LE 4) from bM.out),bN.out⟩
    case measure=>simp [intOf] <;> omega
  ·(try rw [show ((2:Nat):Int)=2 from rfl])
   obtain ⟨CS,hl,ho,hp⟩:=(show RW7 x1.heap.size wl19 vq19 (enK LE 4) from cL.out)
   have hne:=fC.out
   have hn4:=enK_len LE 4
   obtain ⟨LL,hll⟩:=nmz (enK LE 4)
   rw [hll] at ho hp hne hn4
   have eR:=hJ hll
   obtain ⟨n,hn⟩:=nmz (LL.length)
   rw [hn] at ho hne hn4
   have HN:=hJ hn
   have eS:=hJ hne
   have eT:=hJ hn4
   obtain ⟨g,cp,rfl,_,hlt,_,_⟩:=ho.row (by omega)
   have eU:=hJ ho
   have eV:=hJ hp
   obtain ⟨p0,q0,u0,v0,hmn⟩:∃ p q u v,lsL ltB LL=(p,q,u,v):=⟨_,_,_,_,rfl⟩
   obtain ⟨p1,q1,u1,v1,hmx⟩:∃ p q u v,lsL gtB LL=(p,q,u,v):=⟨_,_,_,_,rfl⟩
   have dR:=hJ hmn
   have dS:=hJ hmx
   have aC:=hJ (ls_fr hp (show 1≤LL.length by omega) hmn)
   have aD:=hJ (ls_fr hp (show 1≤LL.length by omega) hmx)
   obtain ⟨cm,hcm⟩:=nmz (pcV p0 q0 u0 v0 p1 q1 u1 v1)
   have cH:=hJ hcm
   clear hl ho hp hne hn4 hll hn hlt hmn hmx hcm
   go_wp2_with fail
   refine (minf_any LL CS g n cp x1.heap.size wl19 eU.out eV.out eS.out (by have:=eT.out; omega) HN.out).mono ?_
   rw [dR.out]
   dsimp only
   rintro e w122 ⟨s19,A19,n19,c19,t19,B19,m19,d19,s20,A20,n20,c20,t20,B20,m20,d20,rfl,hr19,hr20,hb⟩
   have bC:=hJ hb
   have eW:=hJ hr19
   have eX:=hJ hr20
   clear hb hr19 hr20
   have kC:=hJ (OwnR.new eU.out bC.out)
   have kD:=hJ (Pl.new eV.out bC.out)
   go_wp2_with fail
   refine (maxf_any LL CS g n cp x1.heap.size w122 kC.out kD.out eS.out (by have:=eT.out; omega) HN.out).mono ?_
   rw [dS.out]
   dsimp only
   rintro e w123 ⟨s21,A21,n21,c21,t21,B21,m21,d21,s22,A22,n22,c22,t22,B22,m22,d22,rfl,hr21,hr22,hb⟩
   have bD:=hJ hb
   have eY:=hJ hr21
   have eZ:=hJ hr22
   clear hb hr21 hr22
   obtain ⟨x124,bR⟩:=nmz ((w123.alloc (.cells #[.bool s19,.slice A19 n19 c19,.bool t19,.slice B19 m19 d19,.bool s20,.slice A20 n20 c20,.bool t20,.slice B20 m20 d20] 37)).alloc (.cells #[.bool s21,.slice A21 n21 c21,.bool t21,.slice B21 m21 d21,.bool s22,.slice A22 n22 c22,.bool t22,.slice B22 m22 d22] 37))
   have aL:=hJ (show Below w123.heap.size w123 x124 by rw [←bR]; exact (((Below.refl _ _).alloc (Nat.le_refl _) _).alloc (by simp only [World.size_alloc]; omega) _))
   have cI:=hJ (show BX 37 x124 w123.heap.size #[.bool s19,.slice A19 n19 c19,.bool t19,.slice B19 m19 d19,.bool s20,.slice A20 n20 c20,.bool t20,.slice B20 m20 d20] by rw [←bR]; exact ((BX.at rfl).alloc _))
   have dT:=hJ (show BX 37 x124 (w123.heap.size+1) #[.bool s21,.slice A21 n21 c21,.bool t21,.slice B21 m21 d21,.bool s22,.slice A22 n22 c22,.bool t22,.slice B22 m22 d22] by rw [←bR]; exact (BX.at (by simp only [World.size_alloc])))
   by_cases hc:cm=0
   ·have dU:=hJ hc
    obtain ⟨kE,kF,kG,kH,kI,kJ,kK,kL⟩:=cI.out.q8 0 1 2 3 4 5 6 7
    obtain ⟨kM,kN,kO,kP,kQ,kR,kS,kT⟩:=dT.out.q8 0 1 2 3 4 5 6 7
    have bS:=hJ (bt bD.out aL.out)
    have bT:=hJ (PF.new eW.out bS.out)
    have bU:=hJ (PF.new eX.out bS.out)
    have cJ:=hJ (PF.new eY.out aL.out)
    have cK:=hJ (PF.new eZ.out aL.out)
    go_wp2_with fail
    clear bR kE kF kG kH kI kJ kK kL kM kN kO kP kQ kR kS kT
    refine (ptcompare_any p0 q0 u0 v0 p1 q1 u1 v1 s19 A19 n19 c19 t19 B19 m19 d19 s20 A20 n20 c20 t20 B20 m20 d20 s21 A21 n21 c21 t21 B21 m21 d21 s22 A22 n22 c22 t22 B22 m22 d22 x124 bT.out bU.out cJ.out cK.out ⟨⟨aC.out.1.1.1,aC.out.1.2.1,aC.out.1.2.2⟩,⟨aC.out.2.1.1,aC.out.2.2.1,aC.out.2.2.2⟩,⟨aD.out.1.1.1,aD.out.1.2.1,aD.out.1.2.2⟩,⟨aD.out.2.1.1,aD.out.2.2.1,aD.out.2.2.2⟩⟩).mono ?_
    rw [cH.out]
    rintro e w141 ⟨rfl,hb⟩
    have bV:=hJ hb
    clear hb
    have dW:=hJ (BX.new cI.out bV.out)
    obtain ⟨kU,kV,kW,kX,kY,kZ,lA,lB⟩:=dW.out.q8 0 1 2 3 4 5 6 7
    have aI:=hJ (bt (bt (bt (bt bF.out bC.out) bD.out) aL.out) bV.out)
    have aK:=hJ (BX.new eI.out aI.out)
    obtain ⟨x150,fA⟩:=nmz (sto w141 (w.heap.size+2) 0 [.int .i64 1,.bool s19,.slice A19 n19 c19,.bool t19,.slice B19 m19 d19,.bool s20,.slice A20 n20 c20,.bool t20,.slice B20 m20 d20,.bool false,.slice none 0 0,.bool false,.slice none 0 0,.bool false,.slice none 0 0,.bool false,.slice none 0 0])
    have bW:=hJ fA
    have lC:=hJ (show BX 39 x150 (w.heap.size+2) #[.int .i64 1,.bool s19,.slice A19 n19 c19,.bool t19,.slice B19 m19 d19,.bool s20,.slice A20 n20 c20,.bool t20,.slice B20 m20 d20,.bool false,.slice none 0 0,.bool false,.slice none 0 0,.bool false,.slice none 0 0,.bool false,.slice none 0 0] by rw [←bW.out]; exact BX.put_all aK.out [.int .i64 1,.bool s19,.slice A19 n19 c19,.bool t19,.slice B19 m19 d19,.bool s20,.slice A20 n20 c20,.bool t20,.slice B20 m20 d20,.bool false,.slice none 0 0,.bool false,.slice none 0 0,.bool false,.slice none 0 0,.bool false,.slice none 0 0] (by simp))
    have dX:=hJ (show Below w.heap.size w x150 by rw [←bW.out]; exact below_sto (bt (bt (bt (bt eK.out bC.out) bD.out) aL.out) bV.out) eJ.out _ _)
    have dY:=hJ (PF.new bT.out bV.out)
    have dZ:=hJ (show PF x150 s19 A19 n19 c19 t19 B19 m19 d19 p0 q0 by rw [←bW.out]; exact PF.sto dY.out aK.out rfl _ _)
    have eA:=hJ (PF.new bU.out bV.out)
    have eB:=hJ (show PF x150 s20 A20 n20 c20 t20 B20 m20 d20 u0 v0 by rw [←bW.out]; exact PF.sto eA.out aK.out rfl _ _)
    go_wp2_with (refine wpList_st 39 (.tmp 4) (.tmp 52) rfl ?_; refine wpList_store_sto (w.heap.size+2) 0 [.int .i64 1,.bool s19,.slice A19 n19 c19,.bool t19,.slice B19 m19 d19,.bool s20,.slice A20 n20 c20,.bool t20,.slice B20 m20 d20,.bool false,.slice none 0 0,.bool false,.slice none 0 0,.bool false,.slice none 0 0,.bool false,.slice none 0 0] aK.out (by simp) bW.out rfl _ _ _ rfl rfl rfl (by kernel_rfl) rfl ?_)
    clear kU kV kW kX kY kZ lA lB fA
    exact bodyPost_ret (results_cell_row rfl _ _ _ _ _ _ _ rfl lC.out Tryz.underlying39 rfl (by kernel_rfl)) rfl (RetCt7.of ((enC_one dR.out dS.out (cH.out.trans dU.out)).symm.trans ((congrArg enC eR.out).symm.trans HX.out)) ⟨s19,A19,n19,c19,t19,B19,m19,d19,s20,A20,n20,c20,t20,B20,m20,d20,false,none,0,0,false,none,0,0,false,none,0,0,false,none,0,0,rfl,dZ.out,eB.out,(pf_zero7 _),(pf_zero7 _),dX.out⟩)
   ·have dU:=hJ hc
    obtain ⟨lD,lE,lF,lG,lH,lI,lJ,lK⟩:=cI.out.q8 0 1 2 3 4 5 6 7
    obtain ⟨lL,lM,lN,lO,lP,lQ,lR,lS⟩:=dT.out.q8 0 1 2 3 4 5 6 7
    have bS:=hJ (bt bD.out aL.out)
    have bT:=hJ (PF.new eW.out bS.out)
    have bU:=hJ (PF.new eX.out bS.out)
    have cJ:=hJ (PF.new eY.out aL.out)
    have cK:=hJ (PF.new eZ.out aL.out)
    go_wp2_with fail
    clear bR lD lE lF lG lH lI lJ lK lL lM lN lO lP lQ lR lS
    refine (ptcompare_any p0 q0 u0 v0 p1 q1 u1 v1 s19 A19 n19 c19 t19 B19 m19 d19 s20 A20 n20 c20 t20 B20 m20 d20 s21 A21 n21 c21 t21 B21 m21 d21 s22 A22 n22 c22 t22 B22 m22 d22 x124 bT.out bU.out cJ.out cK.out ⟨⟨aC.out.1.1.1,aC.out.1.2.1,aC.out.1.2.2⟩,⟨aC.out.2.1.1,aC.out.2.2.1,aC.out.2.2.2⟩,⟨aD.out.1.1.1,aD.out.1.2.1,aD.out.1.2.2⟩,⟨aD.out.2.1.1,aD.out.2.2.1,aD.out.2.2.2⟩⟩).mono ?_
    rw [cH.out]
    rintro e w167 ⟨rfl,hb⟩
    have aS:=hJ hb
    clear hb
    have dW:=hJ (BX.new cI.out aS.out)
    obtain ⟨lT,lU,lV,lW,lX,lY,lZ,mA⟩:=dW.out.q8 0 1 2 3 4 5 6 7
    have mB:=hJ (BX.new dT.out aS.out)
    obtain ⟨mC,mD,mE,mF,mG,mH,mI,mJ⟩:=mB.out.q8 0 1 2 3 4 5 6 7
    have aI:=hJ (bt (bt (bt (bt bF.out bC.out) bD.out) aL.out) aS.out)
    have aK:=hJ (BX.new eI.out aI.out)
    obtain ⟨x184,fB⟩:=nmz (sto w167 (w.heap.size+2) 0 [.int .i64 2,.bool s19,.slice A19 n19 c19,.bool t19,.slice B19 m19 d19,.bool s20,.slice A20 n20 c20,.bool t20,.slice B20 m20 d20,.bool s21,.slice A21 n21 c21,.bool t21,.slice B21 m21 d21,.bool s22,.slice A22 n22 c22,.bool t22,.slice B22 m22 d22])
    have aX:=hJ fB
    have mK:=hJ (show BX 39 x184 (w.heap.size+2) #[.int .i64 2,.bool s19,.slice A19 n19 c19,.bool t19,.slice B19 m19 d19,.bool s20,.slice A20 n20 c20,.bool t20,.slice B20 m20 d20,.bool s21,.slice A21 n21 c21,.bool t21,.slice B21 m21 d21,.bool s22,.slice A22 n22 c22,.bool t22,.slice B22 m22 d22] by rw [←aX.out]; exact BX.put_all aK.out [.int .i64 2,.bool s19,.slice A19 n19 c19,.bool t19,.slice B19 m19 d19,.bool s20,.slice A20 n20 c20,.bool t20,.slice B20 m20 d20,.bool s21,.slice A21 n21 c21,.bool t21,.slice B21 m21 d21,.bool s22,.slice A22 n22 c22,.bool t22,.slice B22 m22 d22] (by simp))
    have dX:=hJ (show Below w.heap.size w x184 by rw [←aX.out]; exact below_sto (bt (bt (bt (bt eK.out bC.out) bD.out) aL.out) aS.out) eJ.out _ _)
    have dY:=hJ (PF.new bT.out aS.out)
    have dZ:=hJ (show PF x184 s19 A19 n19 c19 t19 B19 m19 d19 p0 q0 by rw [←aX.out]; exact PF.sto dY.out aK.out rfl _ _)
    have eA:=hJ (PF.new bU.out aS.out)
    have eB:=hJ (show PF x184 s20 A20 n20 c20 t20 B20 m20 d20 u0 v0 by rw [←aX.out]; exact PF.sto eA.out aK.out rfl _ _)
    have mL:=hJ (PF.new cJ.out aS.out)
    have mM:=hJ (show PF x184 s21 A21 n21 c21 t21 B21 m21 d21 p1 q1 by rw [←aX.out]; exact PF.sto mL.out aK.out rfl _ _)
    have mN:=hJ (PF.new cK.out aS.out)
    have mO:=hJ (show PF x184 s22 A22 n22 c22 t22 B22 m22 d22 u1 v1 by rw [←aX.out]; exact PF.sto mN.out aK.out rfl _ _)
    go_wp2_with (refine wpList_st 39 (.tmp 4) (.tmp 55) rfl ?_; refine wpList_store_sto (w.heap.size+2) 0 [.int .i64 2,.bool s19,.slice A19 n19 c19,.bool t19,.slice B19 m19 d19,.bool s20,.slice A20 n20 c20,.bool t20,.slice B20 m20 d20,.bool s21,.slice A21 n21 c21,.bool t21,.slice B21 m21 d21,.bool s22,.slice A22 n22 c22,.bool t22,.slice B22 m22 d22] aK.out (by simp) aX.out rfl _ _ _ rfl rfl rfl (by kernel_rfl) rfl ?_)
    clear lT lU lV lW lX lY lZ mA mC mD mE mF mG mH mI mJ fB
    exact bodyPost_ret (results_cell_row rfl _ _ _ _ _ _ _ rfl mK.out Tryz.underlying39 rfl (by kernel_rfl)) rfl (RetCt7.of ((enC_two dR.out dS.out (fun h=>dU.out (cH.out.symm.trans h))).symm.trans ((congrArg enC eR.out).symm.trans HX.out)) ⟨s19,A19,n19,c19,t19,B19,m19,d19,s20,A20,n20,c20,t20,B20,m20,d20,s21,A21,n21,c21,t21,B21,m21,d21,s22,A22,n22,c22,t22,B22,m22,d22,rfl,dZ.out,eB.out,mM.out,mO.out,dX.out⟩)
end Go.Proofs.YtdgicnhadecldaaGreat
