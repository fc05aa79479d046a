/- The reference's cut is the program's. -/
import Derived.Test.YtdgicnhadecldaaGreatKAE
import Derived.Test.YtdgicnhadecldaaGreatKB2
import Derived.Test.YtdgicnhadecldaaGreatKB5
import Derived.Test.YtdgicnhadecldaaGreatKCA
import Derived.Test.YtdgicnhadecldaaGreatKCD
import Derived.Test.YtdgicnhadecldaaGreatKCE
import Derived.Test.YtdgicnhadecldaaGreatKCH
import Derived.Test.YtdgicnhadecldaaGreatKCM
import Derived.Test.YtdgicnhadecldaaGreatKCT
import Derived.Test.YtdgicnhadecldaaGreatKCY
import Derived.Test.YtdgicnhadecldaaGreatKCZ
import Derived.Test.YtdgicnhadecldaaGreatKDA
import Derived.Test.YtdgicnhadecldaaGreatKEA
import Derived.Test.YtdgicnhadecldaaGreatKEV
import Derived.Test.YtdgicnhadecldaaGreatKFD
import Derived.Test.YtdgicnhadecldaaGreatKPF
import Derived.Test.YtdgicnhadecldaaGreatKYA
namespace Go.Proofs.YtdgicnhadecldaaGreat
open Go.RowKit
set_option linter.unusedVariables false
set_option linter.unusedSimpArgs false
/-- Points of the program and of the reference are the same. -/
def SaT (a:Pt4) (b:Tr):Prop:=pcV a.1 a.2.1 a.2.2.1 a.2.2.2 (mkP b.1 (D1 b.2.2)) (mkQ b.1 (D1 b.2.2)) (mkP b.2.1 (D1 b.2.2)) (mkQ b.2.1 (D1 b.2.2))=0
theorem sa_int (x y:Int):SaT (x,1,y,1) (x,y,1):=by
 unfold SaT
 show pcV x 1 y 1 (mkP x 1) (mkQ x 1) (mkP y 1) (mkQ y 1)=0
 rw [(mk_one x).1,(mk_one x).2.1,(mk_one y).1,(mk_one y).2.1]
 exact pc_self _ _ _ _
theorem sa_zero:SaT (0,1,0,1) (0,0,0):=by
 unfold SaT
 show pcV 0 1 0 1 (mkP 0 1) (mkQ 0 1) (mkP 0 1) (mkQ 0 1)=0
 rw [(mk_one 0).1,(mk_one 0).2.1]
 exact pc_self _ _ _ _
theorem sa_vl {k l:Nat} {p q u v A B E X Y D:Int} (hD:0 < D) (h:Vl k p q A E) (g:Vl l u v B E) (e1:X*E=A*D) (e2:Y*E=B*D):SaT (p,q,u,v) (X,Y,D):=by
 unfold SaT
 show pcV p q u v (mkP X (D1 D)) (mkQ X (D1 D)) (mkP Y (D1 D)) (mkQ Y (D1 D))=0
 rw [show D1 D=D by unfold D1; omega]
 obtain ⟨l1,m1⟩:=mk_low X D hD
 obtain ⟨l2,m2⟩:=mk_low Y D hD
 obtain ⟨h1,_,_,h4,h5⟩:=h
 obtain ⟨g1,_,_,g4,g5⟩:=g
 obtain ⟨a1,a2⟩:=low_eq h1 l1 (Int.eq_of_mul_eq_mul_right (Int.mul_ne_zero h4 (show D≠0 by omega)) (by grind))
 obtain ⟨a3,a4⟩:=low_eq g1 l2 (Int.eq_of_mul_eq_mul_right (Int.mul_ne_zero g4 (show D≠0 by omega)) (by grind))
 rw [←a1,←a2,←a3,←a4]
 exact pc_self _ _ _ _
theorem pc_zero7 {a b:Pt4} (ha:IntP a) (hb:IntP b):pcP a b=0↔¬ BefP a b∧¬ BefP b a:=by
 have:=pc_lt ha hb
 rw [←this.1,←this.2]
 omega
theorem bef_t {a b:Pt4}:BefT (toT a) (toT b)↔BefP a b:=Iff.rfl
/-- An ordered list of the points of another list begins with its least one, and ends with its greatest one. -/
theorem rcu_is {L:List Tr} {E:List Pt4} (hs:Srt L) (hE:∀ q ∈ E,IntP q) (hn:1≤E.length) (hm:∀ q,q ∈ L↔∃ z ∈ E,q=toT z):(rcu L).1=(enC E).1∧SaT (enC E).2.1 (rcu L).2.1∧SaT (enC E).2.2 (rcu L).2.2:=by
 have t1:∀ a b c,BefP a b→BefP b c→BefP a c:=by intro a b c; unfold BefP; omega
 have t2:∀ a b c,BefP b c→¬ BefP a c→BefP b a:=by intro a b c; unfold BefP; omega
 have mn:∀ x ∈ E,¬ BefP x (lsL ltB E):=by
  cases E with
  | nil=>cases hn
  | cons a r=>exact fold_ls (R:=BefP) (fun a b ia ib=>by unfold ltB; rw [decide_eq_true_iff]; exact (pc_lt ia ib).1) t1 t2 (fun a=>by unfold BefP; omega) r a (hE a (List.mem_cons_self ..)) (fun x hx=>hE x (List.mem_cons_of_mem _ hx))
 have mx:∀ x ∈ E,¬ BefP (lsL gtB E) x:=by
  cases E with
  | nil=>cases hn
  | cons a r=>exact fold_ls (R:=fun a b=>BefP b a) (fun a b ia ib=>by unfold gtB; rw [decide_eq_true_iff]; exact (pc_lt ia ib).2) (fun a b c h g=>t1 c b a g h) (fun a b c h g=>by unfold BefP at *; omega) (fun a=>by unfold BefP; omega) r a (hE a (List.mem_cons_self ..)) (fun x hx=>hE x (List.mem_cons_of_mem _ hx))
 have n1:=lsL_mem ltB hn
 have n2:=lsL_mem gtB hn
 have i1:=hE _ n1
 have i2:=hE _ n2
 have back:∀ z:Pt4,IntP z→z=((toT z).1,1,(toT z).2.1,1):=by
  rintro ⟨a,b,c,d⟩ ⟨h1,h2⟩
  simp only at h1 h2
  rw [h1,h2]; rfl
 have anti:∀ a b:Tr,a.2.2=1→b.2.2=1→¬ BefT a b→¬ BefT b a→a=b:=by
  rintro ⟨a1,a2,a3⟩ ⟨b1,b2,b3⟩ h1 h2 h g
  unfold BefT at h g
  simp only at h1 h2 h g
  rw [show a1=b1 by omega,show a2=b2 by omega,h1,h2]
 -- the first and the last one
 have hd:∀ p r,L=p :: r→toT (lsL ltB E)=p:=by
  intro p r e
  have hp:p ∈ L:=by rw [e]; exact List.mem_cons_self ..
  obtain ⟨z,hz,rfl⟩:=(hm p).1 hp
  have hm1:toT (lsL ltB E) ∈ toT z :: r:=by rw [←e]; exact (hm _).2 ⟨_,n1,rfl⟩
  rcases List.mem_cons.1 hm1 with h | h
  ·exact h
  exact absurd ((List.pairwise_cons.1 (e ▸ hs.1)).1 _ h) (mn z hz)
 have ls:∀ (h:L≠[]),toT (lsL gtB E)=L.getLast h:=by
  intro h
  obtain ⟨z,hz,e⟩:=(hm _).1 (List.getLast_mem h)
  have k1:∀ q ∈ L,¬ BefT (L.getLast h) q:=by
   intro q hq
   have hp:=hs.1
   rw [←List.dropLast_concat_getLast h] at hp hq
   rcases List.mem_append.1 hq with g | g
   ·have:=(List.pairwise_append.1 hp).2.2 q g _ (List.mem_singleton.2 rfl)
    unfold BefT at *; omega
   rw [List.mem_singleton.1 g]; unfold BefT; omega
  refine anti _ _ rfl (hs.2 _ (List.getLast_mem h)) ?_ (k1 _ ((hm _).2 ⟨_,n2,rfl⟩))
  rw [e]
  exact mx z hz
 cases L with
 | nil=>exact absurd ((hm _).2 ⟨_,n1,rfl⟩) (by simp)
 | cons p r =>
  have ep:=hd p r rfl
  have b1:=back _ i1
  have b2:=back _ i2
  have p1:p.2.2=1:=hs.2 _ (List.mem_cons_self ..)
  cases r with
  | nil =>
   have el:=ls (by simp)
   have e3:lsL gtB E=lsL ltB E:=by
    rw [b1,b2,ep,el]; rfl
   have z:pcP (lsL ltB E) (lsL gtB E)=0:=by rw [e3]; exact pc_self _ _ _ _
   unfold enC
   rw [if_pos z]
   refine ⟨rfl,?_,sa_zero⟩
   show SaT (lsL ltB E) p
   rw [b1,ep]
   obtain ⟨x,y,w⟩:=p
   simp only at p1
   subst p1
   exact sa_int _ _
  | cons q s =>
   have el:=ls (by simp)
   have lt:BefT p ((p :: q :: s).getLast (by simp)):=by
    refine (List.pairwise_cons.1 hs.1).1 _ ?_
    rw [List.getLast_cons (by simp)]
    exact List.getLast_mem _
   have nz:¬ pcP (lsL ltB E) (lsL gtB E)=0:=fun h=>by
    have:=((pc_zero7 i1 i2).1 h).1
    rw [←bef_t,ep,el] at this
    exact this lt
   unfold enC
   rw [if_neg nz]
   refine ⟨rfl,?_,?_⟩
   ·show SaT (lsL ltB E) p
    rw [b1,ep]
    obtain ⟨x,y,w⟩:=p
    simp only at p1
    subst p1
    exact sa_int _ _
   ·show SaT (lsL gtB E) ((q :: s).getLast (by simp))
    have e5:(p :: q :: s).getLast (by simp)=(q :: s).getLast (by simp):=List.getLast_cons (by simp)
    have w1:((p :: q :: s).getLast (by simp)).2.2=1:=hs.2 _ (List.getLast_mem _)
    rw [←e5,b2,el]
    generalize (p :: q :: s).getLast (by simp)=z at w1 ⊢
    obtain ⟨x,y,w⟩:=z
    simp only at w1
    subst w1
    exact sa_int _ _
theorem ed_nil {ax ay bx by' cx cy dx dy:Int} (h:sS ax ay bx by' cx cy dx dy < 0) (g:sS cx cy dx dy ax ay bx by' < 0):edL ax ay bx by' cx cy dx dy=[]:=by
 have ne:∀ ax ay bx by' px py:Int,hoV ax ay bx by' px py=true→sdV ax ay bx by' px py=0:=by
  intro a b c d p q e
  unfold hoV at e
  exact of_decide_eq_true (Bool.and_eq_true _ _ |>.mp e).1
 refine List.eq_nil_iff_forall_not_mem.2 fun q hq=>?_
 unfold sS at h g
 rcases mem_ed.1 hq with (⟨e,_⟩ | ⟨e,_⟩) | (⟨e,_⟩ | ⟨e,_⟩)
 ·rw [ne _ _ _ _ _ _ e,Int.zero_mul] at h; omega
 ·rw [ne _ _ _ _ _ _ e,Int.mul_zero] at h; omega
 ·rw [ne _ _ _ _ _ _ e,Int.zero_mul] at g; omega
 ·rw [ne _ _ _ _ _ _ e,Int.mul_zero] at g; omega
/-- The reference's cut is the program's. -/
theorem meet_ref {ax ay bx by' cx cy dx dy:Int} {P:Tr} (ha:vdP (ax,ay)=0∧vdP (bx,by')=0) (hb:vdP (cx,cy)=0∧vdP (dx,dy)=0) (hs:¬ (ax=bx∧ay=by')) (ht:¬ (cx=dx∧cy=dy)) (hz:rD ax ay bx by' cx cy dx dy≠0→MkZ (rX ax ay bx by' cx cy dx dy) (rY ax ay bx by' cx cy dx dy) (rD ax ay bx by' cx cy dx dy) P.1 P.2.1 P.2.2):(rcu (rl7 ax ay bx by' cx cy dx dy P)).1=(cutV ax ay bx by' cx cy dx dy).1∧SaT (cutV ax ay bx by' cx cy dx dy).2.1 (rcu (rl7 ax ay bx by' cx cy dx dy P)).2.1∧SaT (cutV ax ay bx by' cx cy dx dy).2.2 (rcu (rl7 ax ay bx by' cx cy dx dy P)).2.2:=by
 have hpos:rD ax ay bx by' cx cy dx dy≠0→0 < P.2.2:=fun h=>by
  obtain ⟨_,_,_,_,_,k,_⟩:=hz h
  exact k
 by_cases h:bxM ax ay bx by' cx cy dx dy=true∧¬ 0 < sS ax ay bx by' cx cy dx dy∧¬ 0 < sS cx cy dx dy ax ay bx by'
 ·obtain ⟨h1,h2,h3⟩:=h
  have g:¬ (0 < sS ax ay bx by' cx cy dx dy∨0 < sS cx cy dx dy ax ay bx by'):=fun x=>x.elim h2 h3
  by_cases k:sS ax ay bx by' cx cy dx dy < 0∧sS cx cy dx dy ax ay bx by' < 0
  ·rw [cut_c h1 rfl rfl k]
   have d0:rD ax ay bx by' cx cy dx dy≠0:=by
    have h5:=k.1
    unfold sS at h5
    rw [sd_N,sd_N,sgn_mul.2] at h5
    rw [(rD_is ax ay bx by' cx cy dx dy).1]
    omega
   have z:=hz d0
   have bo:=cr_both hs ht k.1 k.2 z
   have er:re4 ax ay bx by' cx cy dx dy=[]:=by
    refine List.eq_nil_iff_forall_not_mem.2 fun q hq=>?_
    obtain ⟨w,hw,_⟩:=(re_mem hs ht q).1 hq
    rw [ed_nil k.1 k.2] at hw
    cases hw
   have el:rl7 ax ay bx by' cx cy dx dy P=[P]:=by
    unfold rl7 com7
    rw [if_pos d0,if_pos (by rw [bo.1,bo.2]; rfl),er]
    rfl
   rw [el]
   refine ⟨rfl,?_,sa_zero⟩
   obtain ⟨v1,v2⟩:=crX_vl ha hb (sS_ne k.1)
   obtain ⟨X,Y,D⟩:=P
   have hD:=hpos d0
   obtain ⟨G,hG,e1,e2,e3,_,_⟩:=z
   simp only at e1 e2 e3 hD
   have n1:aN cx cy dx dy ax ay - aN cx cy dx dy bx by'=rD ax ay bx by' cx cy dx dy:=by rw [aN_is,aN_is]; unfold rD; grind
   have n2:aN cx cy dx dy ax ay=rN ax ay bx by' cx cy dx dy:=by rw [aN_is]; unfold rN; grind
   rw [n1,n2] at v1 v2
   have r1:rX ax ay bx by' cx cy dx dy=ax*rD ax ay bx by' cx cy dx dy+(bx - ax)*rN ax ay bx by' cx cy dx dy:=rfl
   have r2:rY ax ay bx by' cx cy dx dy=ay*rD ax ay bx by' cx cy dx dy+(by' - ay)*rN ax ay bx by' cx cy dx dy:=rfl
   obtain ⟨⟨r0,r3,r4,r5⟩,hr⟩:=nmz (crX ax ay bx by' cx cy dx dy)
   rw [hr] at v1 v2
   show SaT (crX ax ay bx by' cx cy dx dy) (X,Y,D)
   rw [hr]
   dsimp only at v1 v2
   refine sa_vl hD v1 v2 ?_ ?_
   ·refine Int.eq_of_mul_eq_mul_left hG ?_
    grind
   refine Int.eq_of_mul_eq_mul_left hG ?_
   grind
  obtain ⟨ce,ne⟩:=cut_e h1 rfl rfl g k
  rw [ce]
  have s4:=(re_srt ax ay bx by' cx cy dx dy).1
  have m4:=re_mem hs ht
  by_cases d0:rD ax ay bx by' cx cy dx dy=0
  ·have el:rl7 ax ay bx by' cx cy dx dy P=re4 ax ay bx by' cx cy dx dy:=by unfold rl7; rw [if_neg (fun x=>x d0)]
   rw [el]
   exact rcu_is s4 (fun q hq=>ed_int hq) ne m4
  obtain ⟨q,hq⟩:=List.exists_mem_of_length_pos ne
  have hr:toT q ∈ re4 ax ay bx by' cx cy dx dy:=(m4 _).2 ⟨q,hq,rfl⟩
  obtain ⟨o1,o2,o3⟩:=re_on hr
  rw [o1] at o2 o3
  have l1:=((ro_is (by decide) hs).1 o2).1
  have l2:=((ro_is (by decide) ht).1 o3).1
  obtain ⟨c1,c2⟩:=on_cr l1 l2
  obtain ⟨G,hG,e1,e2,e3,hD,hlow⟩:=hz d0
  rw [e1,e3] at c1
  rw [e2,e3] at c2
  have f1:P.1=(toT q).1*P.2.2:=Int.eq_of_mul_eq_mul_left hG (by grind)
  have f2:P.2.1=(toT q).2.1*P.2.2:=Int.eq_of_mul_eq_mul_left hG (by grind)
  have f3:=hlow ⟨_,by rw [f1,Int.mul_comm]⟩ ⟨_,by rw [f2,Int.mul_comm]⟩
  rw [f3,Int.mul_one] at f1 f2
  have eP:P=toT q:=Prod.ext f1 (Prod.ext f2 (f3.trans o1.symm))
  have el:rl7 ax ay bx by' cx cy dx dy P=com7 ax ay bx by' cx cy dx dy (re4 ax ay bx by' cx cy dx dy) P:=by unfold rl7; rw [if_pos d0]
  rw [el,eP]
  obtain ⟨s5,m5⟩:=com_srt (ax:=ax) (ay:=ay) (bx:=bx) (cx:=cx) (cy:=cy) (dx:=dx) (dy:=dy) s4 (show (toT q).2.2=1 from rfl)
  refine rcu_is s5 (fun q hq=>ed_int hq) ne (fun z=>?_)
  rw [m5]
  exact ⟨fun x=>x.elim (fun y=>(m4 z).1 y) (fun y=>by rw [y.2]; exact ⟨q,hq,rfl⟩),fun x=>.inl ((m4 z).2 x)⟩
 ·rw [rl_nil hs ht hpos h]
  have e:cutV ax ay bx by' cx cy dx dy=(0,(0,1,0,1),(0,1,0,1)):=by
   by_cases h1:bxM ax ay bx by' cx cy dx dy=true
   ·exact cut_p h1 rfl rfl (by
     by_cases h2:0 < sS ax ay bx by' cx cy dx dy
     ·exact .inl h2
     refine .inr ?_
     by_cases h3:0 < sS cx cy dx dy ax ay bx by'
     ·exact h3
     exact absurd ⟨h1,h2,h3⟩ h)
   exact cut_a (by simpa using h1)
  rw [e]
  exact ⟨rfl,sa_zero,sa_zero⟩
end Go.Proofs.YtdgicnhadecldaaGreat
