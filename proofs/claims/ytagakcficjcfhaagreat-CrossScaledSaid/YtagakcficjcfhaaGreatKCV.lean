/- What two segments have in common, multiplied and moved. -/
import Derived.Test.YtagakcficjcfhaaGreatKB2
import Derived.Test.YtagakcficjcfhaaGreatKB5
import Derived.Test.YtagakcficjcfhaaGreatKCA
import Derived.Test.YtagakcficjcfhaaGreatKCE
import Derived.Test.YtagakcficjcfhaaGreatKCH
import Derived.Test.YtagakcficjcfhaaGreatKCM
import Derived.Test.YtagakcficjcfhaaGreatKCT
import Derived.Test.YtagakcficjcfhaaGreatKEA
import Derived.Test.YtagakcficjcfhaaGreatKEV
import Derived.Test.YtagakcficjcfhaaGreatKFG
import Derived.Test.YtagakcficjcfhaaGreatKFI
namespace Go.Proofs.YtagakcficjcfhaaGreat
open Go.RowKit
theorem sc_le {f x a b:Int} (hf:0 < f):f*a+x≤f*b+x↔a≤b:=by
 rw [show (f*a+x≤f*b+x)↔f*a≤f*b by omega]
 exact ⟨fun h=>Int.le_of_mul_le_mul_left h hf,fun h=>Int.mul_le_mul_of_nonneg_left h (by omega)⟩
theorem mm_le {a b c d:Int}:min c d≤max a b↔((c≤a∨c≤b)∨(d≤a∨d≤b)):=by omega
theorem mn_le {a b p:Int}:min a b≤p↔(a≤p∨b≤p):=by omega
theorem mx_le {a b p:Int}:p≤max a b↔(p≤a∨p≤b):=by omega
theorem nV_sc (f x y ax ay bx by' px py:Int):nV (f*ax+x) (f*ay+y) (f*bx+x) (f*by'+y) (f*px+x) (f*py+y)=f*f*nV ax ay bx by' px py:=by unfold nV; grind
theorem aN_sc (f x y ax ay bx by' px py:Int):aN (f*ax+x) (f*ay+y) (f*bx+x) (f*by'+y) (f*px+x) (f*py+y)=f*f*aN ax ay bx by' px py:=by rw [aN_is,aN_is]; grind
theorem cm_sc {f n:Int} (hf:0 < f):cmpI (f*f*n) 0=cmpI n 0:=by
 have h2:0 < f*f:=Int.mul_pos hf hf
 unfold cmpI
 rcases Int.lt_trichotomy n 0 with h | h | h
 ·rw [if_pos (Int.mul_neg_of_pos_of_neg h2 h),if_pos h]
 ·subst h; rw [Int.mul_zero]
 ·have:=Int.mul_pos h2 h
  rw [if_neg (by omega),if_pos this,if_neg (by omega),if_pos h]
theorem sd_sc {f:Int} (hf:0 < f) (x y ax ay bx by' px py:Int):sdV (f*ax+x) (f*ay+y) (f*bx+x) (f*by'+y) (f*px+x) (f*py+y)=sdV ax ay bx by' px py:=by rw [sd_N,sd_N,nV_sc,cm_sc hf]
theorem sS_sc {f:Int} (hf:0 < f) (x y ax ay bx by' cx cy dx dy:Int):sS (f*ax+x) (f*ay+y) (f*bx+x) (f*by'+y) (f*cx+x) (f*cy+y) (f*dx+x) (f*dy+y)=sS ax ay bx by' cx cy dx dy:=by unfold sS; rw [sd_sc hf,sd_sc hf]
theorem bxM_sc {f:Int} (hf:0 < f) (x y ax ay bx by' cx cy dx dy:Int):bxM (f*ax+x) (f*ay+y) (f*bx+x) (f*by'+y) (f*cx+x) (f*cy+y) (f*dx+x) (f*dy+y)=bxM ax ay bx by' cx cy dx dy:=by
 rw [Bool.eq_iff_iff,bxM_is,bxM_is]
 simp only [mm_le,sc_le hf]
theorem InB_sc {f:Int} (hf:0 < f) (x y ax ay bx by' px py:Int):InB (f*ax+x) (f*ay+y) (f*bx+x) (f*by'+y) (f*px+x) (f*py+y)↔InB ax ay bx by' px py:=by
 unfold InB
 simp only [mn_le,mx_le,sc_le hf]
theorem hoV_sc {f:Int} (hf:0 < f) (x y ax ay bx by' px py:Int):hoV (f*ax+x) (f*ay+y) (f*bx+x) (f*by'+y) (f*px+x) (f*py+y)=hoV ax ay bx by' px py:=by
 rw [Bool.eq_iff_iff,ho_is,ho_is,InB_sc hf,nV_sc]
 have h2:0 < f*f:=Int.mul_pos hf hf
 refine and_congr ⟨fun h=>?_,fun h=>by rw [h,Int.mul_zero]⟩ Iff.rfl
 rcases Int.mul_eq_zero.1 h with g | g
 ·omega
 ·exact g
/-- A point of the grid, multiplied and moved. -/
def mpP (f x y:Int) (q:Pt4):Pt4:=(f*q.1+x,1,f*q.2.2.1+y,1)
theorem mem_sc {f:Int} (hf:0 < f) (x y ax ay bx by' cx cy dx dy:Int) (q:Pt4):q ∈ edL (f*ax+x) (f*ay+y) (f*bx+x) (f*by'+y) (f*cx+x) (f*cy+y) (f*dx+x) (f*dy+y)↔∃ z ∈ edL ax ay bx by' cx cy dx dy,q=mpP f x y z:=by
 rw [mem_ed,hoV_sc hf,hoV_sc hf,hoV_sc hf,hoV_sc hf]
 constructor
 ·rintro ((⟨h,rfl⟩ | ⟨h,rfl⟩) | (⟨h,rfl⟩ | ⟨h,rfl⟩))
  ·exact ⟨(ax,1,ay,1),mem_ed.2 (.inl (.inl ⟨h,rfl⟩)),rfl⟩
  ·exact ⟨(bx,1,by',1),mem_ed.2 (.inl (.inr ⟨h,rfl⟩)),rfl⟩
  ·exact ⟨(cx,1,cy,1),mem_ed.2 (.inr (.inl ⟨h,rfl⟩)),rfl⟩
  exact ⟨(dx,1,dy,1),mem_ed.2 (.inr (.inr ⟨h,rfl⟩)),rfl⟩
 ·rintro ⟨z,hz,rfl⟩
  rcases mem_ed.1 hz with (⟨h,rfl⟩ | ⟨h,rfl⟩) | (⟨h,rfl⟩ | ⟨h,rfl⟩)
  ·exact .inl (.inl ⟨h,rfl⟩)
  ·exact .inl (.inr ⟨h,rfl⟩)
  ·exact .inr (.inl ⟨h,rfl⟩)
  ·exact .inr (.inr ⟨h,rfl⟩)
theorem bef_mp {f:Int} (hf:0 < f) (x y:Int) (a b:Pt4):BefP (mpP f x y a) (mpP f x y b)↔BefP a b:=by
 have e:∀ z u v:Int,(f*u+z < f*v+z)↔u < v:=fun z u v=>by have := @sc_le f z v u hf; omega
 have e2:∀ z u v:Int,(f*u+z=f*v+z)↔u=v:=fun z u v=>by have := @sc_le f z v u hf; have := @sc_le f z u v hf; omega
 unfold BefP mpP
 simp only [e,e2]
theorem ls_sc {g:Int→Bool} {R:Pt4→Pt4→Prop} (hg:∀ a b,IntP a→IntP b→(g (pcP a b)=true↔R a b)) (h1:∀ a b c,R a b→R b c→R a c) (h2:∀ a b c,R b c→¬ R a c→R b a) (h0:∀ a,¬ R a a) (h3:∀ a b,IntP a→IntP b→¬ R a b→¬ R b a→a=b) {m:Pt4→Pt4} (hm:∀ a,IntP (m a)) (hr:∀ a b,R (m a) (m b)↔R a b) {L M:List Pt4} (hl:∀ q ∈ L,IntP q) (hn:1≤L.length) (he:∀ q,q ∈ M↔∃ z ∈ L,q=m z):lsL g M=m (lsL g L):=by
 cases L with
 | nil=>cases hn
 | cons a r =>
  cases M with
  | nil=>exact absurd ((he (m a)).2 ⟨a,List.mem_cons_self ..,rfl⟩) (by simp)
  | cons b s =>
   have hl':∀ q ∈ b :: s,IntP q:=fun q hq=>by
    obtain ⟨z,_,rfl⟩:=(he q).1 hq
    exact hm z
   have m1:lsL g (a :: r) ∈ a :: r:=lsL_mem g (by simp)
   have m2:lsL g (b :: s) ∈ b :: s:=lsL_mem g (by simp)
   have k1:=fold_ls hg h1 h2 h0 r a (hl a (List.mem_cons_self ..)) (fun x hx=>hl x (List.mem_cons_of_mem _ hx))
   have k2:=fold_ls hg h1 h2 h0 s b (hl' b (List.mem_cons_self ..)) (fun x hx=>hl' x (List.mem_cons_of_mem _ hx))
   obtain ⟨z,hz,e⟩:=(he _).1 m2
   refine h3 _ _ (hl' _ m2) (hm _) ?_ (k2 _ ((he _).2 ⟨_,m1,rfl⟩))
   rw [e,hr]
   exact k1 z hz
theorem pc_zero {a b:Pt4} (ha:IntP a) (hb:IntP b):pcP a b=0↔¬ BefP a b∧¬ BefP b a:=by
 have:=pc_lt ha hb
 rw [←this.1,←this.2]
 omega
theorem enC_sc {f:Int} (hf:0 < f) (x y:Int) {L M:List Pt4} (hl:∀ q ∈ L,IntP q) (hn:1≤L.length) (he:∀ q,q ∈ M↔∃ z ∈ L,q=mpP f x y z):enC M=(if pcP (lsL ltB L) (lsL gtB L)=0 then (1,mpP f x y (lsL ltB L),(0,1,0,1)) else (2,mpP f x y (lsL ltB L),mpP f x y (lsL gtB L))):=by
 have t1:∀ a b c,BefP a b→BefP b c→BefP a c:=by intro a b c; unfold BefP; omega
 have t2:∀ a b c,BefP b c→¬ BefP a c→BefP b a:=by intro a b c; unfold BefP; omega
 have t3:∀ a b,IntP a→IntP b→¬ BefP a b→¬ BefP b a→a=b:=by
  rintro ⟨a1,a2,a3,a4⟩ ⟨b1,b2,b3,b4⟩ ⟨ha,ha'⟩ ⟨hb,hb'⟩ h g
  unfold BefP at h g
  simp only at ha ha' hb hb' h g
  rw [show a1=b1 by omega,show a3=b3 by omega,ha,ha',hb,hb']
 have im:∀ a,IntP (mpP f x y a):=fun a=>⟨rfl,rfl⟩
 have e1:lsL ltB M=mpP f x y (lsL ltB L):=ls_sc (R:=BefP) (fun a b ia ib=>by unfold ltB; rw [decide_eq_true_iff]; exact (pc_lt ia ib).1) t1 t2 (fun a=>by unfold BefP; omega) t3 im (bef_mp hf x y) hl hn he
 have e2:lsL gtB M=mpP f x y (lsL gtB L):=ls_sc (R:=fun a b=>BefP b a) (fun a b ia ib=>by unfold gtB; rw [decide_eq_true_iff]; exact (pc_lt ia ib).2) (fun a b c h g=>t1 c b a g h) (fun a b c h g=>by unfold BefP at *; omega) (fun a=>by unfold BefP; omega) (fun a b ia ib h g=>t3 a b ia ib g h) im (fun a b=>bef_mp hf x y b a) hl hn he
 unfold enC
 rw [e1,e2]
 have i1:=hl _ (lsL_mem ltB hn)
 have i2:=hl _ (lsL_mem gtB hn)
 by_cases h:pcP (lsL ltB L) (lsL gtB L)=0
 ·rw [if_pos h,if_pos ((pc_zero (im _) (im _)).2 (by rw [bef_mp hf,bef_mp hf]; exact (pc_zero i1 i2).1 h))]
 ·rw [if_neg h,if_neg (fun g=>h ((pc_zero i1 i2).2 (by have:=(pc_zero (im _) (im _)).1 g; rwa [bef_mp hf,bef_mp hf] at this)))]
/-- A fraction, multiplied and moved, as the program does it. -/
def spP (p q f x:Int):Int:=adP (muP p q f 1) (muQ p q f 1) x 1
def spQ (p q f x:Int):Int:=adQ (muP p q f 1) (muQ p q f 1) x 1
/-- Multiplying and moving do not fail, and lead to the fraction of this value. -/
theorem sp_vl {p q X D f x:Int} (h:Vl 229 p q X D) (hf:f.natAbs < B2 40) (hx:x.natAbs < B2 40):(muC p q f 1=0∧adC (muP p q f 1) (muQ p q f 1) x 1=0)∧Vl 269 (muP p q f 1) (muQ p q f 1) (X*f) (D*1)∧Vl 310 (spP p q f x) (spQ p q f x) (X*f*1+x*(D*1)) (D*1*1):=by
 have a1:=vl_mul h (int_vl hf (by decide)) (by decide)
 have a2:=vl_add a1.2 (int_vl hx (by decide)) (by decide)
 have e1:229+40=269:=rfl
 have e2:269+40+1=310:=rfl
 rw [e1] at a1 a2
 rw [e2] at a2
 exact ⟨⟨a1.1,a2.1⟩,a1.2,a2.2⟩
theorem sp_eq {k:Nat} {p q X D f x p' q' X' D':Int} (h:Vl 229 p q X D) (hf:f.natAbs < B2 40) (hx:x.natAbs < B2 40) (h':Vl k p' q' X' D') (e:X'*D=(X*f+x*D)*D'):p'=spP p q f x∧q'=spQ p q f x:=vl_eq7 h' (sp_vl h hf hx).2.2 (by grind)
theorem int_vl2 {x:Int} (h:x.natAbs < B2 32):Vl 229 x 1 x 1:=int_vl (B2.le h (by decide)) (by decide)
/-- All four numbers of a cut are small fractions. -/
theorem cut_vl {ax ay bx by' cx cy dx dy k p0 q0 u0 v0 p1 q1 u1 v1:Int} (ha:vdP (ax,ay)=0∧vdP (bx,by')=0) (hb:vdP (cx,cy)=0∧vdP (dx,dy)=0) (hx:cutV ax ay bx by' cx cy dx dy=(k,(p0,q0,u0,v0),(p1,q1,u1,v1))):((∃ X D,Vl 229 p0 q0 X D)∧(∃ X D,Vl 229 u0 v0 X D))∧(∃ X D,Vl 229 p1 q1 X D)∧(∃ X D,Vl 229 u1 v1 X D):=by
 have z:∃ X D,Vl 229 0 1 X D:=⟨_,_,int_vl2 (x:=0) (by show 0 < 2 ^ 32; decide)⟩
 have ed:∀ q:Pt4,q ∈ edL ax ay bx by' cx cy dx dy→(∃ X D,Vl 229 q.1 q.2.1 X D)∧(∃ X D,Vl 229 q.2.2.1 q.2.2.2 X D):=by
  intro q hq
  rcases mem_ed.1 hq with (⟨_,rfl⟩ | ⟨_,rfl⟩) | (⟨_,rfl⟩ | ⟨_,rfl⟩)
  ·exact ⟨⟨_,_,int_vl2 (vd_b2 ha.1).1⟩,⟨_,_,int_vl2 (vd_b2 ha.1).2⟩⟩
  ·exact ⟨⟨_,_,int_vl2 (vd_b2 ha.2).1⟩,⟨_,_,int_vl2 (vd_b2 ha.2).2⟩⟩
  ·exact ⟨⟨_,_,int_vl2 (vd_b2 hb.1).1⟩,⟨_,_,int_vl2 (vd_b2 hb.1).2⟩⟩
  exact ⟨⟨_,_,int_vl2 (vd_b2 hb.2).1⟩,⟨_,_,int_vl2 (vd_b2 hb.2).2⟩⟩
 unfold cutV at hx
 split at hx
 ·split at hx
  ·simp only [Prod.mk.injEq] at hx
   obtain ⟨_,⟨rfl,rfl,rfl,rfl⟩,rfl,rfl,rfl,rfl⟩:=hx
   exact ⟨⟨z,z⟩,z,z⟩
  split at hx
  ·rename_i h
   obtain ⟨f1,f2⟩:=crX_vl ha hb (sS_ne h.1)
   simp only [Prod.mk.injEq] at hx
   obtain ⟨_,e,rfl,rfl,rfl,rfl⟩:=hx
   rw [e] at f1 f2
   exact ⟨⟨⟨_,_,f1⟩,⟨_,_,f2⟩⟩,z,z⟩
  rename_i h0 h1 h2
  have ne:=(cut_e h0 rfl rfl h1 h2).2
  have f1:=ed _ (lsL_mem ltB ne)
  have f2:=ed _ (lsL_mem gtB ne)
  unfold enC at hx
  split at hx
  ·simp only [Prod.mk.injEq] at hx
   obtain ⟨_,e,rfl,rfl,rfl,rfl⟩:=hx
   rw [e] at f1
   exact ⟨f1,z,z⟩
  simp only [Prod.mk.injEq] at hx
  obtain ⟨_,e,e2⟩:=hx
  rw [e] at f1
  rw [e2] at f2
  exact ⟨f1,f2⟩
 ·simp only [Prod.mk.injEq] at hx
  obtain ⟨_,⟨rfl,rfl,rfl,rfl⟩,rfl,rfl,rfl,rfl⟩:=hx
  exact ⟨⟨z,z⟩,z,z⟩
/-- A point, multiplied and moved. -/
def spT (f x y:Int) (q:Pt4):Pt4:=(spP q.1 q.2.1 f x,spQ q.1 q.2.1 f x,spP q.2.2.1 q.2.2.2 f y,spQ q.2.2.1 q.2.2.2 f y)
theorem mp_sp {f x y:Int} {q:Pt4} (hi:IntP q) (h1:q.1.natAbs < B2 32) (h2:q.2.2.1.natAbs < B2 32) (hf:f.natAbs < B2 40) (hx:x.natAbs < B2 40) (hy:y.natAbs < B2 40) (g1:(f*q.1+x).natAbs < B2 32) (g2:(f*q.2.2.1+y).natAbs < B2 32):mpP f x y q=spT f x y q:=by
 obtain ⟨a,b,c,d⟩:=q
 obtain ⟨e1,e2⟩:=hi
 simp only at e1 e2 h1 h2 g1 g2
 subst e1; subst e2
 obtain ⟨k1,k2⟩:=sp_eq (int_vl2 h1) hf hx (int_vl2 g1) (by grind)
 obtain ⟨k3,k4⟩:=sp_eq (int_vl2 h2) hf hy (int_vl2 g2) (by grind)
 unfold mpP spT
 dsimp only
 rw [←k1,←k2,←k3,←k4]
theorem crX_sc {f x y ax ay bx by' cx cy dx dy:Int} (h0:0 < f) (ha:vdP (ax,ay)=0∧vdP (bx,by')=0) (hb:vdP (cx,cy)=0∧vdP (dx,dy)=0) (ha':vdP (f*ax+x,f*ay+y)=0∧vdP (f*bx+x,f*by'+y)=0) (hb':vdP (f*cx+x,f*cy+y)=0∧vdP (f*dx+x,f*dy+y)=0) (hf:f.natAbs < B2 40) (hx:x.natAbs < B2 40) (hy:y.natAbs < B2 40) (h:sS ax ay bx by' cx cy dx dy < 0):crX (f*ax+x) (f*ay+y) (f*bx+x) (f*by'+y) (f*cx+x) (f*cy+y) (f*dx+x) (f*dy+y)=spT f x y (crX ax ay bx by' cx cy dx dy):=by
 obtain ⟨h1,h2⟩:=crX_vl ha hb (sS_ne h)
 obtain ⟨g1,g2⟩:=crX_vl ha' hb' (sS_ne (by rw [sS_sc h0]; exact h))
 simp only [aN_sc] at g1 g2
 obtain ⟨e1,e2⟩:=sp_eq h1 hf hx g1 (by grind)
 obtain ⟨e3,e4⟩:=sp_eq h2 hf hy g2 (by grind)
 unfold spT
 rw [←e1,←e2,←e3,←e4]
/-- The cut of multiplied and moved segments. -/
theorem cut_sc {f x y ax ay bx by' cx cy dx dy:Int} (h0:0 < f) (ha:vdP (ax,ay)=0∧vdP (bx,by')=0) (hb:vdP (cx,cy)=0∧vdP (dx,dy)=0) (ha':vdP (f*ax+x,f*ay+y)=0∧vdP (f*bx+x,f*by'+y)=0) (hb':vdP (f*cx+x,f*cy+y)=0∧vdP (f*dx+x,f*dy+y)=0) (hf:f.natAbs < B2 40) (hx:x.natAbs < B2 40) (hy:y.natAbs < B2 40):(cutV (f*ax+x) (f*ay+y) (f*bx+x) (f*by'+y) (f*cx+x) (f*cy+y) (f*dx+x) (f*dy+y)).1=(cutV ax ay bx by' cx cy dx dy).1∧((cutV ax ay bx by' cx cy dx dy).1≠0→(cutV (f*ax+x) (f*ay+y) (f*bx+x) (f*by'+y) (f*cx+x) (f*cy+y) (f*dx+x) (f*dy+y)).2.1=spT f x y (cutV ax ay bx by' cx cy dx dy).2.1)∧((cutV ax ay bx by' cx cy dx dy).1=2→(cutV (f*ax+x) (f*ay+y) (f*bx+x) (f*by'+y) (f*cx+x) (f*cy+y) (f*dx+x) (f*dy+y)).2.2=spT f x y (cutV ax ay bx by' cx cy dx dy).2.2):=by
 have em:∀ q:Pt4,q ∈ edL ax ay bx by' cx cy dx dy→mpP f x y q=spT f x y q:=by
  intro q hq
  have hi:=ed_int hq
  rcases mem_ed.1 hq with (⟨_,rfl⟩ | ⟨_,rfl⟩) | (⟨_,rfl⟩ | ⟨_,rfl⟩)
  ·exact mp_sp hi (vd_b2 ha.1).1 (vd_b2 ha.1).2 hf hx hy (vd_b2 ha'.1).1 (vd_b2 ha'.1).2
  ·exact mp_sp hi (vd_b2 ha.2).1 (vd_b2 ha.2).2 hf hx hy (vd_b2 ha'.2).1 (vd_b2 ha'.2).2
  ·exact mp_sp hi (vd_b2 hb.1).1 (vd_b2 hb.1).2 hf hx hy (vd_b2 hb'.1).1 (vd_b2 hb'.1).2
  exact mp_sp hi (vd_b2 hb.2).1 (vd_b2 hb.2).2 hf hx hy (vd_b2 hb'.2).1 (vd_b2 hb'.2).2
 unfold cutV
 rw [bxM_sc h0,sS_sc h0,sS_sc h0]
 by_cases h:bxM ax ay bx by' cx cy dx dy=true
 ·rw [if_pos h,if_pos h]
  by_cases g:0 < sS ax ay bx by' cx cy dx dy∨0 < sS cx cy dx dy ax ay bx by'
  ·rw [if_pos g,if_pos g]
   exact ⟨rfl,fun e=>absurd rfl e,fun e=>absurd (show (0:Int)=2 from e) (by decide)⟩
  rw [if_neg g,if_neg g]
  by_cases k:sS ax ay bx by' cx cy dx dy < 0∧sS cx cy dx dy ax ay bx by' < 0
  ·rw [if_pos k,if_pos k]
   exact ⟨rfl,fun _=>crX_sc h0 ha hb ha' hb' hf hx hy k.1,fun e=>absurd (show (1:Int)=2 from e) (by decide)⟩
  rw [if_neg k,if_neg k]
  have ne:=(cut_e h rfl rfl g k).2
  rw [enC_sc h0 x y (fun q hq=>ed_int hq) ne (mem_sc h0 x y ax ay bx by' cx cy dx dy)]
  have e1:=em _ (lsL_mem ltB ne)
  have e2:=em _ (lsL_mem gtB ne)
  unfold enC
  by_cases c:pcP (lsL ltB (edL ax ay bx by' cx cy dx dy)) (lsL gtB (edL ax ay bx by' cx cy dx dy))=0
  ·rw [if_pos c,if_pos c]
   exact ⟨rfl,fun _=>e1,fun e=>absurd (show (1:Int)=2 from e) (by decide)⟩
  rw [if_neg c,if_neg c]
  exact ⟨rfl,fun _=>e1,fun _=>e2⟩
 ·rw [if_neg h,if_neg h]
  exact ⟨rfl,fun e=>absurd rfl e,fun e=>absurd (show (0:Int)=2 from e) (by decide)⟩
/-- The kinds of cuts. -/
theorem cut_k (ax ay bx by' cx cy dx dy:Int):(cutV ax ay bx by' cx cy dx dy).1=0∨(cutV ax ay bx by' cx cy dx dy).1=1∨(cutV ax ay bx by' cx cy dx dy).1=2:=by
 unfold cutV
 split
 ·split
  ·exact .inl rfl
  split
  ·exact .inr (.inl rfl)
  unfold enC
  split
  ·exact .inr (.inl rfl)
  exact .inr (.inr rfl)
 ·exact .inl rfl
end Go.Proofs.YtagakcficjcfhaaGreat
