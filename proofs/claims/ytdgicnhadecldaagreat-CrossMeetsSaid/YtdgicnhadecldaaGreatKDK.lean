/- The walk of the law CrossMeets. -/
import Derived.Test.YtdgicnhadecldaaGreatKB2
import Derived.Test.YtdgicnhadecldaaGreatKB5
import Derived.Test.YtdgicnhadecldaaGreatKCD
import Derived.Test.YtdgicnhadecldaaGreatKCF
import Derived.Test.YtdgicnhadecldaaGreatKCI
import Derived.Test.YtdgicnhadecldaaGreatKCM
import Derived.Test.YtdgicnhadecldaaGreatKCP
import Derived.Test.YtdgicnhadecldaaGreatKCT
import Derived.Test.YtdgicnhadecldaaGreatKCY
import Derived.Test.YtdgicnhadecldaaGreatKCZ
import Derived.Test.YtdgicnhadecldaaGreatKDA
import Derived.Test.YtdgicnhadecldaaGreatKDB
import Derived.Test.YtdgicnhadecldaaGreatKDC
import Derived.Test.YtdgicnhadecldaaGreatKDI
import Derived.Test.YtdgicnhadecldaaGreatKDJ
import Derived.Test.YtdgicnhadecldaaGreatKFD
import Derived.Test.YtdgicnhadecldaaGreatKRS
import Derived.Test.YtdgicnhadecldaaGreatKYA
namespace Go.Proofs.YtdgicnhadecldaaGreat
open Go.RowKit
attribute [local go_sem ↓] Go.wp_at_zero Go.wp_at_succ
set_option linter.unusedVariables false
set_option linter.unusedSimpArgs false
abbrev Qr8:=Int × Int × Int × Int × Int × Int × Int × Int
def q8V:List Qr8→List Value
 | []=>[]
 | p :: l=>.int .i64 p.1 :: .int .i64 p.2.1 :: .int .i64 p.2.2.1 :: .int .i64 p.2.2.2.1 :: .int .i64 p.2.2.2.2.1 :: .int .i64 p.2.2.2.2.2.1 :: .int .i64 p.2.2.2.2.2.2.1 :: .int .i64 p.2.2.2.2.2.2.2 :: q8V l
theorem q8V_get {l:List Qr8} {i:Nat} {a b c d e f g h:Int} (hx:l[i]?=some (a,b,c,d,e,f,g,h)):((q8V l).toArray[i*8]?=some (.int .i64 a)∧(q8V l).toArray[i*8+1]?=some (.int .i64 b)∧(q8V l).toArray[i*8+2]?=some (.int .i64 c)∧(q8V l).toArray[i*8+3]?=some (.int .i64 d))∧(q8V l).toArray[i*8+4]?=some (.int .i64 e)∧(q8V l).toArray[i*8+4+1]?=some (.int .i64 f)∧(q8V l).toArray[i*8+4+2]?=some (.int .i64 g)∧(q8V l).toArray[i*8+4+3]?=some (.int .i64 h):=by
 simp only [List.getElem?_toArray]
 induction l generalizing i with
 | nil=>simp at hx
 | cons q l ih =>
  match i with
  | 0=>simp at hx; subst hx; exact ⟨⟨rfl,rfl,rfl,rfl⟩,rfl,rfl,rfl,rfl⟩
  | i+1 =>
   have:=ih (i:=i) (by simpa using hx)
   rw [show (i+1)*8=i*8+1+1+1+1+1+1+1+1 by omega]
   exact this
theorem gat8 {l:List Qr8} {n i:Nat} (h:l.length=n) (hi:i < n):∃ a b c d e f g h,l[i]?=some (a,b,c,d,e,f,g,h):=⟨_,_,_,_,_,_,_,_,List.getElem?_eq_getElem (by omega)⟩
theorem put_mem7:∀ {l:List Tr} {p q:Tr},q ∈ put7 l p→q ∈ l∨q=p
 | [],p,q,h=>.inr (by simpa [put7] using h)
 | a :: r,p,q,h=>by
  unfold put7 at h
  split at h
  ·rcases List.mem_cons.1 h with h | h
   ·exact .inl (h ▸ List.mem_cons_self ..)
   exact (put_mem7 h).imp (List.mem_cons_of_mem _) id
  ·split at h
   ·exact .inl h
   ·rcases List.mem_cons.1 h with h | h
    ·exact .inr h
    ·exact .inl h
theorem rl_rb {ax ay bx by' cx cy dx dy X Y D:Int} (hs:Sp ax ay bx by') (ht:Sp cx cy dx dy) (hz:rD ax ay bx by' cx cy dx dy≠0→MkZ (rX ax ay bx by' cx cy dx dy) (rY ax ay bx by' cx cy dx dy) (rD ax ay bx by' cx cy dx dy) X Y D):∀ q ∈ rl7 ax ay bx by' cx cy dx dy (X,Y,D),Rb q.1 q.2.1 q.2.2:=by
 intro q hq
 have gd:=gd_rb hs ht (reK_gd ax ay bx by' cx cy dx dy 4 (by decide))
 have si:=sp_i6 hs ht
 unfold rl7 at hq
 split at hq
 ·rename_i hd
  unfold com7 at hq
  split at hq
  ·rcases put_mem7 hq with h | rfl
   ·exact gd q h
   exact mkz_rb (hz hd) si.2.2.1.1 si.2.2.1.2 si.2.2.2
  exact gd q hq
 ·exact gd q hq
theorem rb_wf {X Y D:Int} (h:Rb X Y D):Wf3 X Y D:=by
 obtain ⟨h1,h2,h3⟩:=h
 exact ⟨⟨WalkArith.wf_i64 (by omega),WalkArith.wf_i64 (by omega)⟩,WalkArith.wf_i64 (by omega)⟩
theorem rcu_wf {L:List Tr} (h:∀ q ∈ L,Rb q.1 q.2.1 q.2.2):Wf3 (rcu L).2.1.1 (rcu L).2.1.2.1 (rcu L).2.1.2.2∧Wf3 (rcu L).2.2.1 (rcu L).2.2.2.1 (rcu L).2.2.2.2:=by
 have z:Wf3 0 0 0:=⟨⟨rfl,rfl⟩,rfl⟩
 match L,h with
 | [],_=>exact ⟨z,z⟩
 | [p],h=>exact ⟨rb_wf (h _ (List.mem_cons_self ..)),z⟩
 | p :: q :: r,h=>exact ⟨rb_wf (h _ (List.mem_cons_self ..)),rb_wf (h _ (List.mem_cons_of_mem _ (List.getLast_mem _)))⟩
theorem rmeet_so (ax ay bx by' cx cy dx dy k p0 q0 u0 v0 p1 q1 u1 v1:Int) (w:World) (hx:cutV ax ay bx by' cx cy dx dy=(k,(p0,q0,u0,v0),(p1,q1,u1,v1))) (hs:Sp ax ay bx by') (ht:Sp cx cy dx dy) :
  Calls Tryz.prog 16 #[.agg #[.int .i64 ax,.int .i64 ay,.int .i64 bx,.int .i64 by'],.agg #[.int .i64 cx,.int .i64 cy,.int .i64 dx,.int .i64 dy]] w (fun e w'=>∃ r1 r2 r3 r4 r5 r6:Int,(Wf3 r1 r2 r3∧Wf3 r4 r5 r6)∧(SaT (p0,q0,u0,v0) (r1,r2,r3)∧SaT (p1,q1,u1,v1) (r4,r5,r6))∧e=.returned (.agg #[.int .i64 k,.int .i64 r1,.int .i64 r2,.int .i64 r3,.int .i64 r4,.int .i64 r5,.int .i64 r6])∧Below w.heap.size w w'):=by
 refine (rmeet7_any ax ay bx by' cx cy dx dy w hs ht).mono ?_
 rintro e w' ⟨QX,QY,QD,hz,rfl,hb⟩
 have m:=meet_ref (P:=(QX,QY,QD)) hs.vs.1 ht.vs.1 hs.2 ht.2 hz
 rw [hx] at m
 obtain ⟨m1,m2,m3⟩:=m
 exact ⟨_,_,_,_,_,_,rcu_wf (rl_rb hs ht hz),⟨m2,m3⟩,by rw [m1],hb⟩
theorem sg_sp {ax ay bx by':Int} (h:Sg7 ax ay bx by'):Sp ax ay bx by':=by
 obtain ⟨h1,h2⟩:=h
 exact ⟨by omega,h2⟩
theorem no_form (ax ay bx by':Int):∃ n0 n1 n2 n3:Int,noV ax ay bx by'=.agg #[.int .i64 n0,.int .i64 n1,.int .i64 n2,.int .i64 n3]:=by
 unfold noV
 split
 ·exact ⟨_,_,_,_,rfl⟩
 ·exact ⟨_,_,_,_,rfl⟩
set_option maxRecDepth 100000 in
set_option maxHeartbeats 12800000 in
theorem crossMeets_walk (n m kk:Int) (w:World) (hw:(Lit.int .i64 n).wf=true∧(Lit.int .i64 m).wf=true∧(Lit.int .i64 kk).wf=true) :
  Calls Tryz.prog 3 #[.int .i64 n,.int .i64 m,.int .i64 kk] w fun e w'=>e=.returned (.bool true)∧Below w.heap.size w w':=by
 have aM:=hJ hw
 clear hw
 go_enter Tryz.func3,Tryz.ntmps3
 go_wp2_with fail
 refine (rpair_any n m kk w ⟨aM.out.1,aM.out.2.1,aM.out.2.2⟩).mono ?_
 rintro e w1 ⟨ax,ay,bx,by',cx,cy,dx,dy,rfl,hsp,htp,hb⟩
 have cR:=hJ hb
 clear hb
 have cS:=hJ hsp
 have cT:=hJ htp
 clear hsp htp
 obtain ⟨x2,aV⟩:=nmz ((w1.alloc (.cells #[.int .i64 ax,.int .i64 ay,.int .i64 bx,.int .i64 by'] 25)).alloc (.cells #[.int .i64 cx,.int .i64 cy,.int .i64 dx,.int .i64 dy] 25))
 have cU:=hJ (show Below w1.heap.size w1 x2 by rw [←aV]; exact (((Below.refl _ _).alloc (Nat.le_refl _) _).alloc (by simp only [World.size_alloc]; omega) _))
 have aW:=hJ (show BX 25 x2 w1.heap.size #[.int .i64 ax,.int .i64 ay,.int .i64 bx,.int .i64 by'] by rw [←aV]; exact ((BX.at rfl).alloc _))
 have aX:=hJ (show BX 25 x2 (w1.heap.size+1) #[.int .i64 cx,.int .i64 cy,.int .i64 dx,.int .i64 dy] by rw [←aV]; exact (BX.at (by simp only [World.size_alloc])))
 have aY:Hid (∀ w',Below x2.heap.size x2 w'→(fun w':World=>w'.cell? ⟨w1.heap.size,0,none⟩=some (.int .i64 ax)∧w'.cell? ⟨w1.heap.size,1,none⟩=some (.int .i64 ay)∧w'.cell? ⟨w1.heap.size,2,none⟩=some (.int .i64 bx)∧w'.cell? ⟨w1.heap.size,3,none⟩=some (.int .i64 by')∧w'.cell? ⟨w1.heap.size+1,0,none⟩=some (.int .i64 cx)∧w'.cell? ⟨w1.heap.size+1,1,none⟩=some (.int .i64 cy)∧w'.cell? ⟨w1.heap.size+1,2,none⟩=some (.int .i64 dx)∧w'.cell? ⟨w1.heap.size+1,3,none⟩=some (.int .i64 dy)∧Below x2.heap.size x2 w') w'):=hJ (fun w' hb=>⟨(BX.new aW.out hb).cell 0 rfl,(BX.new aW.out hb).cell 1 rfl,(BX.new aW.out hb).cell 2 rfl,(BX.new aW.out hb).cell 3 rfl,(BX.new aX.out hb).cell 0 rfl,(BX.new aX.out hb).cell 1 rfl,(BX.new aX.out hb).cell 2 rfl,(BX.new aX.out hb).cell 3 rfl,hb⟩)
 go_wp2_with fail
 clear aV
 obtain ⟨v3,hv3⟩:=nmz (World.drew x2)
 have cV:=hJ (show Below x2.heap.size x2 v3 by rw [←hv3]; exact (Below.refl _ _).drew)
 refine whd aY hv3 (fun hHeld=>?_)
 clear hv3
 refine tq 0 ?_
 refine tq 1 ?_
 refine tq 2 ?_
 refine tq 3 ?_
 refine tq 4 ?_
 refine tq 5 ?_
 refine tq 6 ?_
 refine tq 7 ?_
 refine tq 8 ?_
 refine tq 9 ?_
 refine tq 10 ?_
 refine tq 11 ?_
 refine tq 14 ?_
 refine tq 15 ?_
 refine tq 17 ?_
 try simp only [PT]
 refine ryy [12] ?_
 refine .cons rfl (fun K hK=>?_) .nil
 go_simp
 go_at_call 12
 refine (rseg_any kk n v3 aM.out.2.2 aM.out.1).mono ?_
 rintro e v4 ⟨g0,g1,g2,g3,rfl,hsg,hb⟩
 have cW:=hJ hb
 clear hb
 have cX:=hJ hsg
 clear hsg
 go_wp2_with fail
 have bU:=hJ (bt cV.out cW.out)
 clear hHeld
 refine hK.out _ _ (aY.out _ bU.out) (fun hHeld=>?_)
 clear hK K
 refine tq 13 ?_
 try simp only [PT]
 refine ryy [16] ?_
 refine .cons rfl (fun K hK=>?_) .nil
 go_simp
 go_at_call 12
 refine (rseg_any m kk v4 aM.out.2.1 aM.out.2.2).mono ?_
 rintro e v5 ⟨h0,h1,h2,h3,rfl,hsg,hb⟩
 have cY:=hJ hb
 clear hb
 have cZ:=hJ hsg
 clear hsg
 go_wp2_with fail
 have bV:=hJ (bt bU.out cY.out)
 clear hHeld
 refine hK.out _ _ (aY.out _ bV.out) (fun hHeld=>?_)
 clear hK K
 refine tq 18 ?_
 try simp only [PT]
 refine ryy [19] ?_
 refine .cons rfl (fun K hK=>?_) .nil
 go_simp
 have bW:=hJ ((Below.refl v5.heap.size v5).alloc (Nat.le_refl _) (.cells #[.int .i64 ax,.int .i64 ay,.int .i64 bx,.int .i64 by',.int .i64 cx,.int .i64 cy,.int .i64 dx,.int .i64 dy,.int .i64 cx,.int .i64 cy,.int .i64 dx,.int .i64 dy,.int .i64 ax,.int .i64 ay,.int .i64 bx,.int .i64 by',.int .i64 ax,.int .i64 ay,.int .i64 bx,.int .i64 by',.int .i64 ax,.int .i64 ay,.int .i64 bx,.int .i64 by',.int .i64 ax,.int .i64 ay,.int .i64 bx,.int .i64 by',.int .i64 g0,.int .i64 g1,.int .i64 g2,.int .i64 g3,.int .i64 h0,.int .i64 h1,.int .i64 h2,.int .i64 h3,.int .i64 cx,.int .i64 cy,.int .i64 dx,.int .i64 dy] 28))
 have bD:=hJ (BX.lit v5 28 #[.int .i64 ax,.int .i64 ay,.int .i64 bx,.int .i64 by',.int .i64 cx,.int .i64 cy,.int .i64 dx,.int .i64 dy,.int .i64 cx,.int .i64 cy,.int .i64 dx,.int .i64 dy,.int .i64 ax,.int .i64 ay,.int .i64 bx,.int .i64 by',.int .i64 ax,.int .i64 ay,.int .i64 bx,.int .i64 by',.int .i64 ax,.int .i64 ay,.int .i64 bx,.int .i64 by',.int .i64 ax,.int .i64 ay,.int .i64 bx,.int .i64 by',.int .i64 g0,.int .i64 g1,.int .i64 g2,.int .i64 g3,.int .i64 h0,.int .i64 h1,.int .i64 h2,.int .i64 h3,.int .i64 cx,.int .i64 cy,.int .i64 dx,.int .i64 dy])
 obtain ⟨v6,hV⟩:=nmz (World.alloc v5 (.cells #[.int .i64 ax,.int .i64 ay,.int .i64 bx,.int .i64 by',.int .i64 cx,.int .i64 cy,.int .i64 dx,.int .i64 dy,.int .i64 cx,.int .i64 cy,.int .i64 dx,.int .i64 dy,.int .i64 ax,.int .i64 ay,.int .i64 bx,.int .i64 by',.int .i64 ax,.int .i64 ay,.int .i64 bx,.int .i64 by',.int .i64 ax,.int .i64 ay,.int .i64 bx,.int .i64 by',.int .i64 ax,.int .i64 ay,.int .i64 bx,.int .i64 by',.int .i64 g0,.int .i64 g1,.int .i64 g2,.int .i64 g3,.int .i64 h0,.int .i64 h1,.int .i64 h2,.int .i64 h3,.int .i64 cx,.int .i64 cy,.int .i64 dx,.int .i64 dy] 28))
 obtain ⟨aB,hg⟩:=nmz (v5.heap.size)
 rw [hV] at bW bD ⊢
 rw [hg] at bD ⊢
 clear hV hg
 have bX:=hJ (bt bV.out bW.out)
 clear hHeld
 refine hK.out _ _ (aY.out _ bX.out) (fun hHeld=>?_)
 clear hK K
 refine tq 20 ?_
 try simp only [PT]
 refine wpAnyH_done (by kernel_rfl) ?_ _
 clear hHeld
 obtain ⟨PV,hPT⟩:∃ z:List Qr8,[(ax,ay,bx,by',cx,cy,dx,dy),(cx,cy,dx,dy,ax,ay,bx,by'),(ax,ay,bx,by',ax,ay,bx,by'),(ax,ay,bx,by',g0,g1,g2,g3),(h0,h1,h2,h3,cx,cy,dx,dy)]=z:=⟨_,rfl⟩
 have dA:=hJ (show BX 28 v6 aB (q8V PV).toArray by rw [←hPT]; exact bD.out)
 have dB:=hJ (show PV.length=5 by rw [←hPT]; rfl)
 have dD:=hJ (show ∀ p ∈ PV,Sp p.1 p.2.1 p.2.2.1 p.2.2.2.1∧Sp p.2.2.2.2.1 p.2.2.2.2.2.1 p.2.2.2.2.2.2.1 p.2.2.2.2.2.2.2 by
  have a:=cS.out
  have b:=cT.out
  rw [←hPT]
  simp only [List.mem_cons,List.not_mem_nil,or_false,forall_eq_or_imp,forall_eq]
  exact ⟨⟨a,b⟩,⟨b,a⟩,⟨a,a⟩,⟨a,sg_sp cX.out⟩,⟨sg_sp cZ.out,b⟩⟩)
 clear hPT
 go_wp2_with fail
 go_loopw [10] (fun tv wr=>∃ i:Nat,i≤5∧tv=.int .i64 (i:Int)∧Below v6.heap.size v6 wr) (fun tv _=>5 - (intOf tv).toNat)
 case atStart=>exact ⟨0,by omega,rfl,Below.refl _ _⟩
 case round =>
  obtain ⟨i8,hi,rfl,hbel⟩:=hrel
  obtain ⟨wl8,rfl⟩:∃ W:World,W=wr:=⟨_,rfl⟩
  have bE:=hJ hbel
  clear hbel
  rcases (show i8 < 5∨i8=5 by omega) with hlt | rfl
  ·have h0i:(0:Int)≤(i8:Int):=by omega
   have hli:(i8:Int) < 5:=by omega
   obtain ⟨ea,eb,ec,ed,fa,fb,fc,fd,hx⟩:=gat8 dB.out (show i8 < 5 by omega)
   have aJ:=hJ (q8V_get hx)
   have bF:=hJ aJ.out.1.1
   have bG:=hJ aJ.out.1.2.1
   have bH:=hJ aJ.out.1.2.2.1
   have bJ:=hJ aJ.out.1.2.2.2
   have bY:=hJ aJ.out.2.1
   have bZ:=hJ aJ.out.2.2.1
   have cA:=hJ aJ.out.2.2.2.1
   have cB:=hJ aJ.out.2.2.2.2
   have aD:=hJ (dD.out _ (List.mem_of_getElem? hx))
   clear hx
   obtain ⟨⟨k,⟨p0,q0,u0,v0⟩,p1,q1,u1,v1⟩,hx⟩:=nmz (cutV ea eb ec ed fa fb fc fd)
   have HX:=hJ hx
   have aZ:=hJ (cut_fr aD.out.1.vs.1 aD.out.2.vs.1 hx)
   clear hx
   obtain ⟨n0,n1,n2,n3,hno⟩:=no_form ea eb ec ed
   have cC:=hJ hno
   clear hno
   have aG:=hJ (BX.new dA.out bE.out)
   have aH:Hid (∀ w',Below wl8.heap.size wl8 w'→(fun w':World=>w'.cell? ⟨aB,i8*8,none⟩=some (.int .i64 ea)∧w'.cell? ⟨aB,i8*8+1,none⟩=some (.int .i64 eb)∧w'.cell? ⟨aB,i8*8+2,none⟩=some (.int .i64 ec)∧w'.cell? ⟨aB,i8*8+3,none⟩=some (.int .i64 ed)∧w'.cell? ⟨aB,i8*8+4,none⟩=some (.int .i64 fa)∧w'.cell? ⟨aB,i8*8+4+1,none⟩=some (.int .i64 fb)∧w'.cell? ⟨aB,i8*8+4+2,none⟩=some (.int .i64 fc)∧w'.cell? ⟨aB,i8*8+4+3,none⟩=some (.int .i64 fd)∧Below wl8.heap.size wl8 w') w'):=hJ (fun w' hb=>⟨(BX.new aG.out hb).cell (i8*8) bF.out,(BX.new aG.out hb).cell (i8*8+1) bG.out,(BX.new aG.out hb).cell (i8*8+2) bH.out,(BX.new aG.out hb).cell (i8*8+3) bJ.out,(BX.new aG.out hb).cell (i8*8+4) bY.out,(BX.new aG.out hb).cell (i8*8+4+1) bZ.out,(BX.new aG.out hb).cell (i8*8+4+2) cA.out,(BX.new aG.out hb).cell (i8*8+4+3) cB.out,hb⟩)
   go_wp2_with fail
   obtain ⟨v9,hv9⟩:=nmz (World.drew wl8)
   have bK:=hJ (show Below wl8.heap.size wl8 v9 by rw [←hv9]; exact (Below.refl _ _).drew)
   refine whd aH hv9 (fun hHeld=>?_)
   clear hv9
   refine tq 0 ?_
   refine tq 1 ?_
   refine tq 2 ?_
   refine tq 3 ?_
   refine tq 4 ?_
   refine tq 5 ?_
   refine tq 6 ?_
   refine tq 7 ?_
   refine tq 8 ?_
   refine tq 9 ?_
   try simp only [PT]
   refine wpAnyH_name (fun F hF a0 ha0 L0 hL0=>?_)
   have bA:∀ (s11:Bool) (A11:Option Addr) (n11:Nat) (c11:Nat) (t11:Bool) (B11:Option Addr) (m11:Nat) (d11:Nat) (s12:Bool) (A12:Option Addr) (n12:Nat) (c12:Nat) (t12:Bool) (B12:Option Addr) (m12:Nat) (d12:Nat) (s13:Bool) (A13:Option Addr) (n13:Nat) (c13:Nat) (t13:Bool) (B13:Option Addr) (m13:Nat) (d13:Nat) (s14:Bool) (A14:Option Addr) (n14:Nat) (c14:Nat) (t14:Bool) (B14:Option Addr) (m14:Nat) (d14:Nat) (aA:Nat) (v:World),Hid (Below wl8.heap.size wl8 v)→Hid (PF v s11 A11 n11 c11 t11 B11 m11 d11 p0 q0)→Hid (PF v s12 A12 n12 c12 t12 B12 m12 d12 u0 v0)→Hid (PF v s13 A13 n13 c13 t13 B13 m13 d13 p1 q1)→Hid (PF v s14 A14 n14 c14 t14 B14 m14 d14 u1 v1)→Hid (BX 39 v aA #[.int .i64 0,.bool false,.slice none 0 0,.bool false,.slice none 0 0,.bool false,.slice none 0 0,.bool false,.slice none 0 0,.bool false,.slice none 0 0,.bool false,.slice none 0 0,.bool false,.slice none 0 0,.bool false,.slice none 0 0])→Hid (wl8.heap.size≤aA)→F 2 (Array.setIfInBounds (Array.setIfInBounds (Array.setIfInBounds (Array.setIfInBounds (Array.setIfInBounds L0 10 true) 14 true) 11 true) 12 true) 13 true) (Act.put (Act.put (Act.put (Act.put (Act.put a0 (some 59) (.tuple #[.agg #[.int .i64 k,.bool s11,.slice A11 n11 c11,.bool t11,.slice B11 m11 d11,.bool s12,.slice A12 n12 c12,.bool t12,.slice B12 m12 d12,.bool s13,.slice A13 n13 c13,.bool t13,.slice B13 m13 d13,.bool s14,.slice A14 n14 c14,.bool t14,.slice B14 m14 d14],.int .i64 0])) (some 11) (.pointer (some ⟨aA,0,none⟩))) (some 48) (.tuple #[.agg #[.int .i64 k,.bool s11,.slice A11 n11 c11,.bool t11,.slice B11 m11 d11,.bool s12,.slice A12 n12 c12,.bool t12,.slice B12 m12 d12,.bool s13,.slice A13 n13 c13,.bool t13,.slice B13 m13 d13,.bool s14,.slice A14 n14 c14,.bool t14,.slice B14 m14 d14],.int .i64 0])) (some 60) (.agg #[.int .i64 k,.bool s11,.slice A11 n11 c11,.bool t11,.slice B11 m11 d11,.bool s12,.slice A12 n12 c12,.bool t12,.slice B12 m12 d12,.bool s13,.slice A13 n13 c13,.bool t13,.slice B13 m13 d13,.bool s14,.slice A14 n14 c14,.bool t14,.slice B14 m14 d14])) (some 61) (.int .i64 0)) v:=by
    intro s11 A11 n11 c11 t11 B11 m11 d11 s12 A12 n12 c12 t12 B12 m12 d12 s13 A13 n13 c13 t13 B13 m13 d13 s14 A14 n14 c14 t14 B14 m14 d14 aA v aI bL bM bN bO aK bP
    subst hF ha0 hL0
    simp only [PT] at  ⊢
    have hHeld:=aH.out _ aI.out
    refine ryy [15] ?_
    refine .cons rfl (fun K hK=>?_) .nil
    obtain ⟨v10,hV⟩:=nmz (sto v aA 0 [.int .i64 k,.bool s11,.slice A11 n11 c11,.bool t11,.slice B11 m11 d11,.bool s12,.slice A12 n12 c12,.bool t12,.slice B12 m12 d12,.bool s13,.slice A13 n13 c13,.bool t13,.slice B13 m13 d13,.bool s14,.slice A14 n14 c14,.bool t14,.slice B14 m14 d14])
    have aO:=hJ hV
    clear hV
    refine wp_store_sto aA 0 [.int .i64 k,.bool s11,.slice A11 n11 c11,.bool t11,.slice B11 m11 d11,.bool s12,.slice A12 n12 c12,.bool t12,.slice B12 m12 d12,.bool s13,.slice A13 n13 c13,.bool t13,.slice B13 m13 d13,.bool s14,.slice A14 n14 c14,.bool t14,.slice B14 m14 d14] aK.out (by simp) aO.out _ _ _ rfl rfl rfl (by kernel_rfl) rfl ?_
    have bQ:=hJ (show Below wl8.heap.size wl8 v10 by rw [←aO.out]; exact below_sto aI.out bP.out _ _)
    have dE:=hJ (show PF v10 s11 A11 n11 c11 t11 B11 m11 d11 p0 q0 by rw [←aO.out]; exact PF.sto bL.out aK.out rfl _ _)
    have dG:=hJ (show PF v10 s12 A12 n12 c12 t12 B12 m12 d12 u0 v0 by rw [←aO.out]; exact PF.sto bM.out aK.out rfl _ _)
    have dH:=hJ (show PF v10 s13 A13 n13 c13 t13 B13 m13 d13 p1 q1 by rw [←aO.out]; exact PF.sto bN.out aK.out rfl _ _)
    have dI:=hJ (show PF v10 s14 A14 n14 c14 t14 B14 m14 d14 u1 v1 by rw [←aO.out]; exact PF.sto bO.out aK.out rfl _ _)
    have dJ:=hJ (show BX 39 v10 aA #[.int .i64 k,.bool s11,.slice A11 n11 c11,.bool t11,.slice B11 m11 d11,.bool s12,.slice A12 n12 c12,.bool t12,.slice B12 m12 d12,.bool s13,.slice A13 n13 c13,.bool t13,.slice B13 m13 d13,.bool s14,.slice A14 n14 c14,.bool t14,.slice B14 m14 d14] by rw [←aO.out]; exact BX.put_all aK.out [.int .i64 k,.bool s11,.slice A11 n11 c11,.bool t11,.slice B11 m11 d11,.bool s12,.slice A12 n12 c12,.bool t12,.slice B12 m12 d12,.bool s13,.slice A13 n13 c13,.bool t13,.slice B13 m13 d13,.bool s14,.slice A14 n14 c14,.bool t14,.slice B14 m14 d14] (by simp))
    clear hHeld
    refine hK.out _ _ (aH.out _ bQ.out) (fun hHeld=>?_)
    clear hK K
    refine tq 16 ?_
    try simp only [PT]
    refine wpAnyH_done (by kernel_rfl) ?_ _
    clear hHeld
    have aU:=hJ (BX.new aG.out bQ.out)
    have dK:=aU.out.cell (i8*8) bF.out
    have dL:=aU.out.cell (i8*8+1) bG.out
    have dM:=aU.out.cell (i8*8+2) bH.out
    have dN:=aU.out.cell (i8*8+3) bJ.out
    go_wp2_with fail
    clear dK dL dM dN
    refine (cnorm_any ea eb ec ed v10 aD.out.1.vs).mono ?_
    rw [cC.out]
    rintro e w16 ⟨rfl,hb⟩
    have cD:=hJ hb
    clear hb
    obtain ⟨x17,bR⟩:=nmz (w16.alloc (.cells #[.int .i64 n0,.int .i64 n1,.int .i64 n2,.int .i64 n3] 25))
    have cE:=hJ (show Below w16.heap.size w16 x17 by rw [←bR]; exact ((Below.refl _ _).alloc (Nat.le_refl _) _))
    have bB:=hJ (show BX 25 x17 w16.heap.size #[.int .i64 n0,.int .i64 n1,.int .i64 n2,.int .i64 n3] by rw [←bR]; exact (BX.at rfl))
    have aR:=hJ (bt cD.out cE.out)
    have aC:=hJ (BX.new dJ.out aR.out)
    have aL:=hJ (BX.new aU.out aR.out)
    have bC:Hid (∀ w',Below x17.heap.size x17 w'→(fun w':World=>w'.cell? ⟨aA,0,none⟩=some (.int .i64 k)∧w'.cell? ⟨aA,1,none⟩=some (.bool s11)∧w'.cell? ⟨aA,2,none⟩=some (.slice A11 n11 c11)∧w'.cell? ⟨aA,3,none⟩=some (.bool t11)∧w'.cell? ⟨aA,4,none⟩=some (.slice B11 m11 d11)∧w'.cell? ⟨aA,5,none⟩=some (.bool s12)∧w'.cell? ⟨aA,6,none⟩=some (.slice A12 n12 c12)∧w'.cell? ⟨aA,7,none⟩=some (.bool t12)∧w'.cell? ⟨aA,8,none⟩=some (.slice B12 m12 d12)∧w'.cell? ⟨aA,9,none⟩=some (.bool s13)∧w'.cell? ⟨aA,10,none⟩=some (.slice A13 n13 c13)∧w'.cell? ⟨aA,11,none⟩=some (.bool t13)∧w'.cell? ⟨aA,12,none⟩=some (.slice B13 m13 d13)∧w'.cell? ⟨aA,13,none⟩=some (.bool s14)∧w'.cell? ⟨aA,14,none⟩=some (.slice A14 n14 c14)∧w'.cell? ⟨aA,15,none⟩=some (.bool t14)∧w'.cell? ⟨aA,16,none⟩=some (.slice B14 m14 d14)∧w'.cell? ⟨aB,i8*8,none⟩=some (.int .i64 ea)∧w'.cell? ⟨aB,i8*8+1,none⟩=some (.int .i64 eb)∧w'.cell? ⟨aB,i8*8+2,none⟩=some (.int .i64 ec)∧w'.cell? ⟨aB,i8*8+3,none⟩=some (.int .i64 ed)∧w'.cell? ⟨aB,i8*8+4,none⟩=some (.int .i64 fa)∧w'.cell? ⟨aB,i8*8+4+1,none⟩=some (.int .i64 fb)∧w'.cell? ⟨aB,i8*8+4+2,none⟩=some (.int .i64 fc)∧w'.cell? ⟨aB,i8*8+4+3,none⟩=some (.int .i64 fd)∧w'.cell? ⟨w16.heap.size,0,none⟩=some (.int .i64 n0)∧w'.cell? ⟨w16.heap.size,1,none⟩=some (.int .i64 n1)∧w'.cell? ⟨w16.heap.size,2,none⟩=some (.int .i64 n2)∧w'.cell? ⟨w16.heap.size,3,none⟩=some (.int .i64 n3)∧Below x17.heap.size x17 w') w'):=hJ (fun w' hb=>⟨(BX.new aC.out hb).cell 0 rfl,(BX.new aC.out hb).cell 1 rfl,(BX.new aC.out hb).cell 2 rfl,(BX.new aC.out hb).cell 3 rfl,(BX.new aC.out hb).cell 4 rfl,(BX.new aC.out hb).cell 5 rfl,(BX.new aC.out hb).cell 6 rfl,(BX.new aC.out hb).cell 7 rfl,(BX.new aC.out hb).cell 8 rfl,(BX.new aC.out hb).cell 9 rfl,(BX.new aC.out hb).cell 10 rfl,(BX.new aC.out hb).cell 11 rfl,(BX.new aC.out hb).cell 12 rfl,(BX.new aC.out hb).cell 13 rfl,(BX.new aC.out hb).cell 14 rfl,(BX.new aC.out hb).cell 15 rfl,(BX.new aC.out hb).cell 16 rfl,(BX.new aL.out hb).cell (i8*8) bF.out,(BX.new aL.out hb).cell (i8*8+1) bG.out,(BX.new aL.out hb).cell (i8*8+2) bH.out,(BX.new aL.out hb).cell (i8*8+3) bJ.out,(BX.new aL.out hb).cell (i8*8+4) bY.out,(BX.new aL.out hb).cell (i8*8+4+1) bZ.out,(BX.new aL.out hb).cell (i8*8+4+2) cA.out,(BX.new aL.out hb).cell (i8*8+4+3) cB.out,(BX.new bB.out hb).cell 0 rfl,(BX.new bB.out hb).cell 1 rfl,(BX.new bB.out hb).cell 2 rfl,(BX.new bB.out hb).cell 3 rfl,hb⟩)
    have dO:=hJ (PF.new dE.out aR.out)
    have dP:=hJ (PF.new dG.out aR.out)
    have dQ:=hJ (PF.new dH.out aR.out)
    have dR:=hJ (PF.new dI.out aR.out)
    go_wp2_with fail
    clear bR
    obtain ⟨v18,hv18⟩:=nmz (World.drew x17)
    have dS:=hJ (show Below x17.heap.size x17 v18 by rw [←hv18]; exact (Below.refl _ _).drew)
    refine whd bC hv18 (fun hHeld=>?_)
    clear hv18
    refine tq 0 ?_
    refine tq 1 ?_
    refine tq 2 ?_
    refine tq 3 ?_
    refine tq 4 ?_
    refine tq 5 ?_
    refine tq 6 ?_
    refine tq 7 ?_
    refine tq 8 ?_
    refine tq 9 ?_
    refine tq 10 ?_
    refine tq 11 ?_
    refine tq 12 ?_
    refine tq 13 ?_
    refine tq 14 ?_
    refine tq 15 ?_
    refine tq 16 ?_
    refine tq 17 ?_
    try simp only [PT]
    refine ryy [18] ?_
    refine .cons rfl (fun K hK=>?_) .nil
    go_simp
    go_at_call 16
    refine (rmeet_so ea eb ec ed fa fb fc fd k p0 q0 u0 v0 p1 q1 u1 v1 v18 HX.out aD.out.1 aD.out.2).mono ?_
    rintro e v19 ⟨r1,r2,r3,r4,r5,r6,hwf,hsa,rfl,hb⟩
    have dT:=hJ hb
    clear hb
    have cF:=hJ hwf
    have cG:=hJ hsa
    clear hwf hsa
    go_wp2_with fail
    have aS:=hJ (bt dS.out dT.out)
    clear hHeld
    refine hK.out _ _ (bC.out _ aS.out) (fun hHeld=>?_)
    clear hK K
    try simp only [PT]
    refine ryy [19] ?_
    refine .cons rfl (fun K hK=>?_) .nil
    go_simp
    go_at_call 15
    refine (same7_any k p0 q0 u0 v0 p1 q1 u1 v1 r1 r2 r3 r4 r5 r6 s11 A11 n11 c11 t11 B11 m11 d11 s12 A12 n12 c12 t12 B12 m12 d12 s13 A13 n13 c13 t13 B13 m13 d13 s14 A14 n14 c14 t14 B14 m14 d14 v19 (PF.new dO.out aS.out) aZ.out.1.1 (PF.new dP.out aS.out) aZ.out.1.2 (PF.new dQ.out aS.out) aZ.out.2.1 (PF.new dR.out aS.out) aZ.out.2.2 cF.out.1 cF.out.2 cG.out.1 cG.out.2).mono ?_
    rintro e v20 ⟨rfl,hb⟩
    have dU:=hJ hb
    clear hb
    go_wp2_with fail
    have cH:=hJ (bt aS.out dU.out)
    clear hHeld
    refine hK.out _ _ (bC.out _ cH.out) (fun hHeld=>?_)
    clear hK K
    refine tq 20 ?_
    refine tq 21 ?_
    refine tq 22 ?_
    refine tq 23 ?_
    refine tq 24 ?_
    refine tq 25 ?_
    refine tq 26 ?_
    refine tq 27 ?_
    refine tq 28 ?_
    try simp only [PT]
    refine ryy [29] ?_
    refine .cons rfl (fun K hK=>?_) .nil
    go_simp
    go_at_call 17
    refine (rnormal7_any ea eb ec ed v20).mono ?_
    rw [cC.out]
    rintro e v21 ⟨rfl,hb⟩
    have dW:=hJ hb
    clear hb
    go_wp2_with fail
    have cI:=hJ (bt cH.out dW.out)
    clear hHeld
    refine hK.out _ _ (bC.out _ cI.out) (fun hHeld=>?_)
    clear hK K
    refine tq 30 ?_
    refine tq 31 ?_
    try simp only [PT]
    refine wpAnyH_done (by kernel_rfl) ?_ _
    clear hHeld
    have dX:=hJ (bt (bt (bt (bt bE.out bQ.out) cD.out) cE.out) cI.out)
    go_wp2_with fail
    all_goals
     go_roundw
     case rel=>exact ⟨i8+1,by omega,by go_num,dX.out⟩
     case measure=>simp [intOf] <;> omega
   have cJ:∀ (s11:Bool) (A11:Option Addr) (n11:Nat) (c11:Nat) (t11:Bool) (B11:Option Addr) (m11:Nat) (d11:Nat) (s12:Bool) (A12:Option Addr) (n12:Nat) (c12:Nat) (t12:Bool) (B12:Option Addr) (m12:Nat) (d12:Nat) (s13:Bool) (A13:Option Addr) (n13:Nat) (c13:Nat) (t13:Bool) (B13:Option Addr) (m13:Nat) (d13:Nat) (s14:Bool) (A14:Option Addr) (n14:Nat) (c14:Nat) (t14:Bool) (B14:Option Addr) (m14:Nat) (d14:Nat) (v:World),Hid (Below wl8.heap.size wl8 v)→Hid (PF v s11 A11 n11 c11 t11 B11 m11 d11 p0 q0)→Hid (PF v s12 A12 n12 c12 t12 B12 m12 d12 u0 v0)→Hid (PF v s13 A13 n13 c13 t13 B13 m13 d13 p1 q1)→Hid (PF v s14 A14 n14 c14 t14 B14 m14 d14 u1 v1)→F 3 (Array.setIfInBounds (Array.setIfInBounds (Array.setIfInBounds (Array.setIfInBounds L0 10 true) 11 true) 12 true) 13 true) (Act.put (Act.put (Act.put (Act.put a0 (some 59) (.tuple #[.agg #[.int .i64 k,.bool s11,.slice A11 n11 c11,.bool t11,.slice B11 m11 d11,.bool s12,.slice A12 n12 c12,.bool t12,.slice B12 m12 d12,.bool s13,.slice A13 n13 c13,.bool t13,.slice B13 m13 d13,.bool s14,.slice A14 n14 c14,.bool t14,.slice B14 m14 d14],.int .i64 0])) (some 48) (.tuple #[.agg #[.int .i64 k,.bool s11,.slice A11 n11 c11,.bool t11,.slice B11 m11 d11,.bool s12,.slice A12 n12 c12,.bool t12,.slice B12 m12 d12,.bool s13,.slice A13 n13 c13,.bool t13,.slice B13 m13 d13,.bool s14,.slice A14 n14 c14,.bool t14,.slice B14 m14 d14],.int .i64 0])) (some 60) (.agg #[.int .i64 k,.bool s11,.slice A11 n11 c11,.bool t11,.slice B11 m11 d11,.bool s12,.slice A12 n12 c12,.bool t12,.slice B12 m12 d12,.bool s13,.slice A13 n13 c13,.bool t13,.slice B13 m13 d13,.bool s14,.slice A14 n14 c14,.bool t14,.slice B14 m14 d14])) (some 61) (.int .i64 0)) v:=by
    intro s11 A11 n11 c11 t11 B11 m11 d11 s12 A12 n12 c12 t12 B12 m12 d12 s13 A13 n13 c13 t13 B13 m13 d13 s14 A14 n14 c14 t14 B14 m14 d14 v aI bL bM bN bO
    subst hF ha0 hL0
    simp only [PT] at bA ⊢
    have hHeld:=aH.out _ aI.out
    refine ryy [14] ?_
    refine .cons rfl (fun K hK=>?_) .nil
    go_simp
    have aT:=hJ ((Below.refl v.heap.size v).alloc (Nat.le_refl _) (.cells #[.int .i64 0,.bool false,.slice none 0 0,.bool false,.slice none 0 0,.bool false,.slice none 0 0,.bool false,.slice none 0 0,.bool false,.slice none 0 0,.bool false,.slice none 0 0,.bool false,.slice none 0 0,.bool false,.slice none 0 0] 39))
    have bS:=hJ (BX.lit v 39 #[.int .i64 0,.bool false,.slice none 0 0,.bool false,.slice none 0 0,.bool false,.slice none 0 0,.bool false,.slice none 0 0,.bool false,.slice none 0 0,.bool false,.slice none 0 0,.bool false,.slice none 0 0,.bool false,.slice none 0 0])
    obtain ⟨v22,hV⟩:=nmz (World.alloc v (.cells #[.int .i64 0,.bool false,.slice none 0 0,.bool false,.slice none 0 0,.bool false,.slice none 0 0,.bool false,.slice none 0 0,.bool false,.slice none 0 0,.bool false,.slice none 0 0,.bool false,.slice none 0 0,.bool false,.slice none 0 0] 39))
    obtain ⟨aA,hg⟩:=nmz (v.heap.size)
    rw [hV] at aT bS ⊢
    rw [hg] at bS ⊢
    have dY:=hJ (show wl8.heap.size≤aA by rw [←hg]; exact aI.out.size)
    clear hV hg
    have cK:=hJ (bt aI.out aT.out)
    have dZ:=hJ (PF.new bL.out aT.out)
    have eA:=hJ (PF.new bM.out aT.out)
    have eB:=hJ (PF.new bN.out aT.out)
    have eC:=hJ (PF.new bO.out aT.out)
    clear hHeld
    refine hK.out _ _ (aH.out _ cK.out) (fun hHeld=>?_)
    clear hK K
    try simp only [PT]
    exact wpAnyH_cast (by kernel_rfl) (bA s11 A11 n11 c11 t11 B11 m11 d11 s12 A12 n12 c12 t12 B12 m12 d12 s13 A13 n13 c13 t13 B13 m13 d13 s14 A14 n14 c14 t14 B14 m14 d14 aA v22 cK dZ eA eB eC bS dY)
   have cL:∀ (aA:Nat) (v:World),Hid (Below wl8.heap.size wl8 v)→Hid (BX 39 v aA #[.int .i64 0,.bool false,.slice none 0 0,.bool false,.slice none 0 0,.bool false,.slice none 0 0,.bool false,.slice none 0 0,.bool false,.slice none 0 0,.bool false,.slice none 0 0,.bool false,.slice none 0 0,.bool false,.slice none 0 0])→Hid (wl8.heap.size≤aA)→F 6 (Array.setIfInBounds L0 14 true) (Act.put a0 (some 11) (.pointer (some ⟨aA,0,none⟩))) v:=by
    intro aA v aI aK bP
    subst hF ha0 hL0
    simp only [PT] at bA ⊢
    have hHeld:=aH.out _ aI.out
    refine ryy [10] ?_
    refine .cons rfl (fun K hK=>?_) .nil
    go_simp
    go_at_call 13
    refine (Meet_any ea eb ec ed fa fb fc fd k p0 q0 u0 v0 p1 q1 u1 v1 v ⟨aD.out.1.vs,aD.out.2.vs⟩ HX.out).mono ?_
    rintro e v23 ⟨s11,A11,n11,c11,t11,B11,m11,d11,s12,A12,n12,c12,t12,B12,m12,d12,s13,A13,n13,c13,t13,B13,m13,d13,s14,A14,n14,c14,t14,B14,m14,d14,rfl,hr11,hr12,hr13,hr14,hb⟩
    have cM:=hJ hb
    have eD:=hJ hr11
    have eE:=hJ hr12
    have eF:=hJ hr13
    have eG:=hJ hr14
    clear hb hr11 hr12 hr13 hr14
    go_wp2_with fail
    have cN:=hJ (bt aI.out cM.out)
    have eH:=hJ (BX.new aK.out cM.out)
    clear hHeld
    refine hK.out _ _ (aH.out _ cN.out) (fun hHeld=>?_)
    clear hK K
    refine tq 11 ?_
    refine tq 12 ?_
    refine tq 13 ?_
    try simp only [PT]
    exact wpAnyH_cast (by kernel_rfl) (bA s11 A11 n11 c11 t11 B11 m11 d11 s12 A12 n12 c12 t12 B12 m12 d12 s13 A13 n13 c13 t13 B13 m13 d13 s14 A14 n14 c14 t14 B14 m14 d14 aA v23 cN eD eE eF eG eH bP)
   subst hF ha0 hL0
   simp only [PT] at cJ cL
   refine ryy [10,14] ?_
   refine .cons rfl (fun K hK=>?_) ?_
   go_simp
   go_at_call 13
   refine (Meet_any ea eb ec ed fa fb fc fd k p0 q0 u0 v0 p1 q1 u1 v1 v9 ⟨aD.out.1.vs,aD.out.2.vs⟩ HX.out).mono ?_
   rintro e v24 ⟨s11,A11,n11,c11,t11,B11,m11,d11,s12,A12,n12,c12,t12,B12,m12,d12,s13,A13,n13,c13,t13,B13,m13,d13,s14,A14,n14,c14,t14,B14,m14,d14,rfl,hr11,hr12,hr13,hr14,hb⟩
   have eI:=hJ hb
   have eJ:=hJ hr11
   have eK:=hJ hr12
   have eL:=hJ hr13
   have eM:=hJ hr14
   clear hb hr11 hr12 hr13 hr14
   go_wp2_with fail
   have cO:=hJ (bt bK.out eI.out)
   clear hHeld
   refine hK.out _ _ (aH.out _ cO.out) (fun hHeld=>?_)
   clear hK K
   refine tq 11 ?_
   refine tq 12 ?_
   refine tq 13 ?_
   try simp only [PT]
   exact wpAnyH_cast (by kernel_rfl) (cJ s11 A11 n11 c11 t11 B11 m11 d11 s12 A12 n12 c12 t12 B12 m12 d12 s13 A13 n13 c13 t13 B13 m13 d13 s14 A14 n14 c14 t14 B14 m14 d14 v24 cO eJ eK eL eM)
   refine .cons rfl (fun K hK=>?_) .nil
   go_simp
   have cP:=hJ ((Below.refl v9.heap.size v9).alloc (Nat.le_refl _) (.cells #[.int .i64 0,.bool false,.slice none 0 0,.bool false,.slice none 0 0,.bool false,.slice none 0 0,.bool false,.slice none 0 0,.bool false,.slice none 0 0,.bool false,.slice none 0 0,.bool false,.slice none 0 0,.bool false,.slice none 0 0] 39))
   have bT:=hJ (BX.lit v9 39 #[.int .i64 0,.bool false,.slice none 0 0,.bool false,.slice none 0 0,.bool false,.slice none 0 0,.bool false,.slice none 0 0,.bool false,.slice none 0 0,.bool false,.slice none 0 0,.bool false,.slice none 0 0,.bool false,.slice none 0 0])
   obtain ⟨v25,hV⟩:=nmz (World.alloc v9 (.cells #[.int .i64 0,.bool false,.slice none 0 0,.bool false,.slice none 0 0,.bool false,.slice none 0 0,.bool false,.slice none 0 0,.bool false,.slice none 0 0,.bool false,.slice none 0 0,.bool false,.slice none 0 0,.bool false,.slice none 0 0] 39))
   obtain ⟨aA,hg⟩:=nmz (v9.heap.size)
   rw [hV] at cP bT ⊢
   rw [hg] at bT ⊢
   have eN:=hJ (show wl8.heap.size≤aA by rw [←hg]; exact bK.out.size)
   clear hV hg
   have cQ:=hJ (bt bK.out cP.out)
   clear hHeld
   refine hK.out _ _ (aH.out _ cQ.out) (fun hHeld=>?_)
   clear hK K
   try simp only [PT]
   exact wpAnyH_cast (by kernel_rfl) (cL aA v25 cQ bT eN)
  ·(try rw [show ((5:Nat):Int)=5 from rfl])
   go_wp2_with fail
   refine (lives7_any wl8).mono ?_
   rintro e w26 ⟨rfl,hb⟩
   have eO:=hJ hb
   clear hb
   have eP:=hJ (bt (bt (bt (bt cR.out cU.out) bX.out) bE.out) eO.out)
   go_wp2
   go_ret
   exact ⟨rfl,eP.out⟩
theorem crossMeets_law (a0 a1 a2:Int) (w:World) (w0:(Lit.int .i64 a0).wf=true) (w1:(Lit.int .i64 a1).wf=true) (w2:(Lit.int .i64 a2).wf=true) :
  Calls Tryz.prog 3 #[.int .i64 a0,.int .i64 a1,.int .i64 a2] w fun e w'=>e=.returned (.bool true)∧Below w.heap.size w w':=crossMeets_walk a0 a1 a2 w ⟨w0,w1,w2⟩
end Go.Proofs.YtdgicnhadecldaaGreat
