/- What two segments have in common does not depend on their order, nor on the order of their ends. -/
import Derived.Test.YtdgicnhadecldaaGreatKAE
import Derived.Test.YtdgicnhadecldaaGreatKB2
import Derived.Test.YtdgicnhadecldaaGreatKB5
import Derived.Test.YtdgicnhadecldaaGreatKCA
import Derived.Test.YtdgicnhadecldaaGreatKCB
import Derived.Test.YtdgicnhadecldaaGreatKCC
import Derived.Test.YtdgicnhadecldaaGreatKCE
import Derived.Test.YtdgicnhadecldaaGreatKCH
import Derived.Test.YtdgicnhadecldaaGreatKCM
import Derived.Test.YtdgicnhadecldaaGreatKEA
import Derived.Test.YtdgicnhadecldaaGreatKEV
import Derived.Test.YtdgicnhadecldaaGreatKFD
import Derived.Test.YtdgicnhadecldaaGreatKFI
import Derived.Test.YtdgicnhadecldaaGreatKPF
namespace Go.Proofs.YtdgicnhadecldaaGreat
open Go.RowKit
theorem int_vl {k:Nat} {x:Int} (h:x.natAbs < B2 k) (hk:1≤k):Vl k x 1 x 1:=⟨⟨by decide,Nat.gcd_one_right _⟩,h,(by
 show (1:Nat) < 2 ^ k
 exact Nat.lt_of_lt_of_le (by decide:1 < 2 ^ 1) (Nat.pow_le_pow_right (by decide) hk)),by decide,rfl⟩
theorem cr_vl {n m:Int} (hn:n.natAbs < B2 65) (hm:m.natAbs < B2 65) (h:n - m≠0):Vl 131 (crT n m) (crU n m) (n*1) (1*(n - m)):=by
 have a1:=(vl_add (int_vl hn (by decide)) (vl_neg (int_vl hm (by decide))) (by decide)).2
 obtain ⟨a2,_,_,_,a3⟩:=a1
 obtain ⟨e1,e2⟩:=low_eq a2 (show Low (n - m) 1 from ⟨by decide,Nat.gcd_one_right _⟩) (by grind)
 have hb:(n - m).natAbs < B2 66:=by
  have:=b2_a hn (show (-m).natAbs < B2 65 by rw [Int.natAbs_neg]; exact hm)
  rwa [←Int.sub_eq_add_neg] at this
 obtain ⟨l1,l2⟩:=mk_low' 1 (n - m) h
 obtain ⟨b1,b2⟩:=mk_b2c (k:=66) (x:=1) (show (1:Int).natAbs < B2 66 by show (1:Nat) < 2 ^ 66; decide) hb h
 have v:Vl 66 (mkP 1 (n - m)) (mkQ 1 (n - m)) 1 (n - m):=⟨l1,b1,b2,h,l2⟩
 have a4:=(vl_mul (int_vl hn (by decide)) v (by decide)).2
 unfold crT crU
 rw [e1,e2]
 rw [show dvP n 1 (n - m) 1=muP n 1 (mkP 1 (n - m)) (mkQ 1 (n - m)) from if_neg h,show dvQ n 1 (n - m) 1=muQ n 1 (mkP 1 (n - m)) (mkQ 1 (n - m)) from if_neg h]
 exact a4
theorem vd_b2 {x y:Int} (h:vdP (x,y)=0):x.natAbs < B2 32∧y.natAbs < B2 32:=by
 have:=vd_i6 h
 exact ⟨Nat.lt_of_le_of_lt (show x.natAbs≤2147483648 by omega) (by unfold B2; decide),Nat.lt_of_le_of_lt (show y.natAbs≤2147483648 by omega) (by unfold B2; decide)⟩
/-- The numbers of a crossing. -/
theorem crX_vl {ax ay bx by' cx cy dx dy:Int} (ha:vdP (ax,ay)=0∧vdP (bx,by')=0) (hb:vdP (cx,cy)=0∧vdP (dx,dy)=0) (h:aN cx cy dx dy ax ay - aN cx cy dx dy bx by'≠0) :
  Vl 229 (crX ax ay bx by' cx cy dx dy).1 (crX ax ay bx by' cx cy dx dy).2.1 (ax*(1*1*(1*(aN cx cy dx dy ax ay - aN cx cy dx dy bx by')))+(bx*1 + -ax*1)*(aN cx cy dx dy ax ay*1)*1) (1*(1*1*(1*(aN cx cy dx dy ax ay - aN cx cy dx dy bx by')))) ∧
  Vl 229 (crX ax ay bx by' cx cy dx dy).2.2.1 (crX ax ay bx by' cx cy dx dy).2.2.2 (ay*(1*1*(1*(aN cx cy dx dy ax ay - aN cx cy dx dy bx by')))+(by'*1 + -ay*1)*(aN cx cy dx dy ax ay*1)*1) (1*(1*1*(1*(aN cx cy dx dy ax ay - aN cx cy dx dy bx by')))):=by
 have v:=cr_vl (aN_b2 hb.1 hb.2 ha.1) (aN_b2 hb.1 hb.2 ha.2) h
 have h1:=vl_ow (k:=32) (l:=32) (m:=131) (int_vl (vd_b2 ha.1).1 (by decide)) (int_vl (vd_b2 ha.2).1 (by decide)) v (by decide)
 have h2:=vl_ow (k:=32) (l:=32) (m:=131) (int_vl (vd_b2 ha.1).2 (by decide)) (int_vl (vd_b2 ha.2).2 (by decide)) v (by decide)
 have e:32+(32+32+1+131)+1=229:=rfl
 rw [e] at h1 h2
 unfold crX
 dsimp only
 exact ⟨h1,h2⟩
theorem sS_ne {ax ay bx by' cx cy dx dy:Int} (h:sS ax ay bx by' cx cy dx dy < 0):aN cx cy dx dy ax ay - aN cx cy dx dy bx by'≠0:=by
 unfold sS at h
 rw [sd_N,sd_N,sgn_mul.2] at h
 rw [aN_is,aN_is]
 unfold nV at h
 omega
theorem mem_e7 {x:Bool × Int × Int} {q:Pt4}:q ∈ e7 x↔x.1=true∧q=(x.2.1,1,x.2.2,1):=by
 unfold e7
 split
 ·rename_i h; simp [h]
 ·rename_i h; simp [h]
theorem mem_ed {ax ay bx by' cx cy dx dy:Int} {q:Pt4}:q ∈ edL ax ay bx by' cx cy dx dy↔((hoV cx cy dx dy ax ay=true∧q=(ax,1,ay,1))∨(hoV cx cy dx dy bx by'=true∧q=(bx,1,by',1)))∨((hoV ax ay bx by' cx cy=true∧q=(cx,1,cy,1))∨(hoV ax ay bx by' dx dy=true∧q=(dx,1,dy,1))):=by
 unfold edL enK
 rw [List.take_of_length_le (by simp)]
 simp only [List.mem_flatMap,List.mem_cons,List.not_mem_nil,or_false,exists_eq_or_imp,exists_eq_left,mem_e7,or_assoc]
/-- A point of the grid. -/
def IntP (q:Pt4):Prop:=q.2.1=1∧q.2.2.2=1
theorem ed_int {ax ay bx by' cx cy dx dy:Int} {q:Pt4} (h:q ∈ edL ax ay bx by' cx cy dx dy):IntP q:=by
 rw [mem_ed] at h
 rcases h with (⟨_,rfl⟩ | ⟨_,rfl⟩) | (⟨_,rfl⟩ | ⟨_,rfl⟩) <;> exact ⟨rfl,rfl⟩
theorem ed_wf {ax ay bx by' cx cy dx dy:Int} (ha:vdP (ax,ay)=0∧vdP (bx,by')=0) (hb:vdP (cx,cy)=0∧vdP (dx,dy)=0) {q:Pt4} (h:q ∈ edL ax ay bx by' cx cy dx dy):Fr q.1 q.2.1∧Fr q.2.2.1 q.2.2.2:=by
 rw [mem_ed] at h
 rcases h with (⟨_,rfl⟩ | ⟨_,rfl⟩) | (⟨_,rfl⟩ | ⟨_,rfl⟩)
 ·exact ⟨int_fr (vd_wf ha.1).1,int_fr (vd_wf ha.1).2⟩
 ·exact ⟨int_fr (vd_wf ha.2).1,int_fr (vd_wf ha.2).2⟩
 ·exact ⟨int_fr (vd_wf hb.1).1,int_fr (vd_wf hb.1).2⟩
 ·exact ⟨int_fr (vd_wf hb.2).1,int_fr (vd_wf hb.2).2⟩
/-- One point comes before another one. -/
def BefP (a b:Pt4):Prop:=a.1 < b.1∨(a.1=b.1∧a.2.2.1 < b.2.2.1)
theorem pc_lt {a b:Pt4} (ha:IntP a) (hb:IntP b):(pcP a b < 0↔BefP a b)∧(0 < pcP a b↔BefP b a):=by
 unfold pcP pcV BefP cmpI
 rw [ha.1,ha.2,hb.1,hb.2]
 simp only [Int.mul_one]
 generalize a.1=x
 generalize b.1=y
 generalize a.2.2.1=u
 generalize b.2.2.1=v
 rcases Int.lt_trichotomy x y with h | h | h
 ·rw [if_neg (by rw [if_pos h]; decide),if_pos h]; omega
 ·subst h
  rw [if_pos (by rw [if_neg (by omega),if_neg (by omega)])]
  rcases Int.lt_trichotomy u v with g | g | g
  ·rw [if_pos g]; omega
  ·rw [if_neg (by omega),if_neg (by omega)]; omega
  rw [if_neg (by omega),if_pos g]; omega
 ·rw [if_neg (by rw [if_neg (by omega),if_pos h]; decide),if_neg (by omega),if_pos h]; omega
theorem fold_ls {f:Int→Bool} {R:Pt4→Pt4→Prop} (hf:∀ a b,IntP a→IntP b→(f (pcP a b)=true↔R a b)) (h1:∀ a b c,R a b→R b c→R a c) (h2:∀ a b c,R b c→¬ R a c→R b a) (h0:∀ a,¬ R a a):∀ (r:List Pt4) (a:Pt4),IntP a→(∀ x ∈ r,IntP x)→∀ x ∈ a :: r,¬ R x (r.foldl (stL f) a)
 | [],a,_,_,x,hx=>by
  simp at hx; subst hx; exact h0 x
 | b :: r,a,ia,ir,x,hx=>by
  have ib:IntP b:=ir b (List.mem_cons_self ..)
  have ir':∀ y ∈ r,IntP y:=fun y hy=>ir y (List.mem_cons_of_mem _ hy)
  have hm:stL f a b=if f (pcP b a)=true then b else a:=rfl
  show ¬ R x (r.foldl (stL f) (stL f a b))
  by_cases c:R b a
  ·rw [hm,if_pos ((hf b a ib ia).2 c)]
   have ih:=fold_ls hf h1 h2 h0 r b ib ir'
   rcases List.mem_cons.1 hx with rfl | hx
   ·exact fun h=>ih b (List.mem_cons_self ..) (h1 b x _ c h)
   exact ih x hx
  ·rw [hm,if_neg (fun h=>c ((hf b a ib ia).1 h))]
   have ih:=fold_ls hf h1 h2 h0 r a ia ir'
   rcases List.mem_cons.1 hx with rfl | hx
   ·exact ih x (List.mem_cons_self ..)
   ·rcases List.mem_cons.1 hx with rfl | hx
    ·exact fun h=>c (h2 a x _ h (ih a (List.mem_cons_self ..)))
    ·exact ih x (List.mem_cons_of_mem _ hx)
/-- The numbers of a cut are fractions in lowest terms. -/
theorem cut_fr {ax ay bx by' cx cy dx dy k p0 q0 u0 v0 p1 q1 u1 v1:Int} (ha:vdP (ax,ay)=0∧vdP (bx,by')=0) (hb:vdP (cx,cy)=0∧vdP (dx,dy)=0) (hx:cutV ax ay bx by' cx cy dx dy=(k,(p0,q0,u0,v0),(p1,q1,u1,v1))):(Fr p0 q0∧Fr u0 v0)∧Fr p1 q1∧Fr u1 v1:=by
 have z:Fr 0 1:=int_fr (x:=0) rfl
 unfold cutV at hx
 split at hx
 ·split at hx
  ·simp only [Prod.mk.injEq] at hx
   obtain ⟨_,⟨rfl,rfl,rfl,rfl⟩,rfl,rfl,rfl,rfl⟩:=hx
   exact ⟨⟨z,z⟩,z,z⟩
  split at hx
  ·rename_i h
   obtain ⟨v1,v2⟩:=crX_vl ha hb (sS_ne h.1)
   have f1:=vl_frC v1 (by decide)
   have f2:=vl_frC v2 (by decide)
   simp only [Prod.mk.injEq] at hx
   obtain ⟨_,e,rfl,rfl,rfl,rfl⟩:=hx
   rw [e] at f1 f2
   exact ⟨⟨f1,f2⟩,z,z⟩
  rename_i h0 h1 h2
  have ne:=(cut_e h0 rfl rfl h1 h2).2
  have f1:=ed_wf ha hb (lsL_mem ltB ne)
  have f2:=ed_wf ha hb (lsL_mem gtB ne)
  unfold enC at hx
  split at hx
  ·simp only [Prod.mk.injEq] at hx
   obtain ⟨_,e,rfl,rfl,rfl,rfl⟩:=hx
   rw [e] at f1
   exact ⟨f1,z,z⟩
  simp only [Prod.mk.injEq] at hx
  obtain ⟨_,e,e2⟩:=hx
  rw [e] at f1
  rw [e2] at f2
  exact ⟨f1,f2⟩
 ·simp only [Prod.mk.injEq] at hx
  obtain ⟨_,⟨rfl,rfl,rfl,rfl⟩,rfl,rfl,rfl,rfl⟩:=hx
  exact ⟨⟨z,z⟩,z,z⟩
theorem pc_self (p q u v:Int):pcV p q u v p q u v=0:=by
 have c:∀ x:Int,cmpI x x=0:=fun x=>by unfold cmpI; rw [if_neg (by omega),if_neg (by omega)]
 unfold pcV
 rw [c,c,if_pos rfl]
end Go.Proofs.YtdgicnhadecldaaGreat
