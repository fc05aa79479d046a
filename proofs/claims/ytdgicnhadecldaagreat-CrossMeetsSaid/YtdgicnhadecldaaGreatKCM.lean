/- Contracts of cross.meet and cross.Meet. Conditions: as each statement has them. -/
import Derived.Test.YtdgicnhadecldaaGreatKB2
import Derived.Test.YtdgicnhadecldaaGreatKB5
import Derived.Test.YtdgicnhadecldaaGreatKCA
import Derived.Test.YtdgicnhadecldaaGreatKCB
import Derived.Test.YtdgicnhadecldaaGreatKCE
import Derived.Test.YtdgicnhadecldaaGreatKCH
import Derived.Test.YtdgicnhadecldaaGreatKEA
import Derived.Test.YtdgicnhadecldaaGreatKFD
import Derived.Test.YtdgicnhadecldaaGreatKQL
import Derived.Test.YtdgicnhadecldaaGreatKRS
namespace Go.Proofs.YtdgicnhadecldaaGreat
open Go.RowKit
attribute [local go_sem ↓] Go.wp_at_zero Go.wp_at_succ
set_option linter.unusedVariables false
set_option linter.unusedSimpArgs false
def nV (ax ay bx by' cx cy:Int):Int:=(bx - ax)*(cy - ay) - (by' - ay)*(cx - ax)
def InB (ax ay bx by' px py:Int):Prop:=(min ax bx≤px∧px≤max ax bx)∧min ay by'≤py∧py≤max ay by'
theorem ltge (a b:Int):a < b∨b≤a:=by omega
theorem tw_in {u v r s:Int} (h0:0 < u) (h1:u≤v) (h:v*s=r*u):min 0 r≤s∧s≤max 0 r:=by
 rcases Int.le_total 0 r with hr | hr
 ·have a1:0≤v*s:=by rw [h]; exact Int.mul_nonneg hr (by omega)
  have a2:0≤s:=Int.nonneg_of_mul_nonneg_right a1 (by omega)
  have a3:v*s≤v*r:=by rw [h,Int.mul_comm v r]; exact Int.mul_le_mul_of_nonneg_left h1 hr
  have a4:s≤r:=Int.le_of_mul_le_mul_left a3 (by omega)
  omega
 ·have a1:v*s≤0:=by rw [h]; exact Int.mul_nonpos_of_nonpos_of_nonneg hr (by omega)
  have a2:s≤0:=by
   rcases ltge 0 s with g | g
   ·have:=Int.mul_pos (show 0 < v by omega) g; omega
   exact g
  have a3:v*r≤v*s:=by
   rw [h,Int.mul_comm v r]
   have:=Int.mul_le_mul_of_nonneg_left h1 (show 0 ≤ -r by omega)
   rw [Int.neg_mul,Int.neg_mul] at this; omega
  have a4:r≤s:=Int.le_of_mul_le_mul_left a3 (by omega)
  omega
/-- a lies before c and d, on their line. -/
theorem ne_one {ax ay bx by' cx cy dx dy:Int} (hc:ax < cx) (hd:ax < dx) (h:nV cx cy dx dy ax ay=0) (hs:¬ 0 < nV ax ay bx by' cx cy∨¬ 0 < nV ax ay bx by' dx dy) (ht:¬ nV ax ay bx by' cx cy < 0∨¬ nV ax ay bx by' dx dy < 0) (hm:min cx dx≤max ax bx):(nV ax ay bx by' cx cy=0∧InB ax ay bx by' cx cy)∨(nV ax ay bx by' dx dy=0∧InB ax ay bx by' dx dy):=by
 have e1:(cx - ax)*(dy - ay)=(cy - ay)*(dx - ax):=by unfold nV at h; grind
 have e2:nV ax ay bx by' dx dy*(cx - ax)=nV ax ay bx by' cx cy*(dx - ax):=by unfold nV; grind
 have z:nV ax ay bx by' cx cy=0∧nV ax ay bx by' dx dy=0:=by
  generalize nV ax ay bx by' cx cy=p at *
  generalize nV ax ay bx by' dx dy=q at *
  rcases Int.lt_trichotomy p 0 with hp | hp | hp
  ·have h1:p*(dx - ax) < 0:=Int.mul_neg_of_neg_of_pos hp (by omega)
   rcases ltge q 0 with g | g
   ·omega
   have:=Int.mul_nonneg g (show 0≤cx - ax by omega); omega
  ·rw [hp,Int.zero_mul] at e2
   rcases Int.mul_eq_zero.1 e2 with g | g
   ·exact ⟨hp,g⟩
   omega
  have h1:0 < p*(dx - ax):=Int.mul_pos hp (by omega)
  rcases ltge 0 q with g | g
  ·omega
  have:=Int.mul_nonpos_of_nonpos_of_nonneg g (show 0≤cx - ax by omega); omega
 obtain ⟨z1,z2⟩:=z
 rcases (show cx≤bx∨dx≤bx by omega) with g | g
 ·left
  refine ⟨z1,⟨by omega,by omega⟩,?_⟩
  have:=tw_in (u:=cx - ax) (v:=bx - ax) (r:=by' - ay) (s:=cy - ay) (by omega) (by omega) (by unfold nV at z1; omega)
  omega
 ·right
  refine ⟨z2,⟨by omega,by omega⟩,?_⟩
  have:=tw_in (u:=dx - ax) (v:=bx - ax) (r:=by' - ay) (s:=dy - ay) (by omega) (by omega) (by unfold nV at z2; omega)
  omega
/-- a lies on the line of c and d. -/
theorem ne_two {ax ay bx by' cx cy dx dy:Int} (h:nV cx cy dx dy ax ay=0) (hs:¬ 0 < nV ax ay bx by' cx cy∨¬ 0 < nV ax ay bx by' dx dy) (ht:¬ nV ax ay bx by' cx cy < 0∨¬ nV ax ay bx by' dx dy < 0) (hm:(min cx dx≤max ax bx∧min ax bx≤max cx dx)∧min cy dy≤max ay by'∧min ay by'≤max cy dy):InB cx cy dx dy ax ay∨(nV ax ay bx by' cx cy=0∧InB ax ay bx by' cx cy)∨(nV ax ay bx by' dx dy=0∧InB ax ay bx by' dx dy):=by
 by_cases hb:InB cx cy dx dy ax ay
 ·exact .inl hb
 ·right
  have hc:(ax < cx∧ax < dx)∨(cx < ax∧dx < ax)∨(ay < cy∧ay < dy)∨(cy < ay∧dy < ay):=by unfold InB at hb; omega
  have n1:∀ ax ay bx by' cx cy:Int,nV (-ax) ay (-bx) by' (-cx) cy = - nV ax ay bx by' cx cy:=by intros; unfold nV; grind
  have n2:∀ ax ay bx by' cx cy:Int,nV ay ax by' bx cy cx = - nV ax ay bx by' cx cy:=by intros; unfold nV; grind
  rcases hc with ⟨h1,h2⟩ | ⟨h1,h2⟩ | ⟨h1,h2⟩ | ⟨h1,h2⟩
  ·exact ne_one h1 h2 h hs ht hm.1.1
  ·have:=ne_one (ax := -ax) (ay:=ay) (bx := -bx) (by':=by') (cx := -cx) (cy:=cy) (dx := -dx) (dy:=dy) (by omega) (by omega) (by rw [n1]; omega) (by rw [n1,n1]; omega) (by rw [n1,n1]; omega) (by omega)
   rw [n1,n1] at this
   unfold InB at this ⊢
   omega
  ·have:=ne_one (ax:=ay) (ay:=ax) (bx:=by') (by':=bx) (cx:=cy) (cy:=cx) (dx:=dy) (dy:=dx) (by omega) (by omega) (by rw [n2 cx cy dx dy ax ay]; omega) (by rw [n2 ax ay bx by' cx cy,n2 ax ay bx by' dx dy]; omega) (by rw [n2 ax ay bx by' cx cy,n2 ax ay bx by' dx dy]; omega) (by omega)
   rw [n2 ax ay bx by' cx cy,n2 ax ay bx by' dx dy] at this
   unfold InB at this ⊢
   omega
  ·have:=ne_one (ax := -ay) (ay:=ax) (bx := -by') (by':=bx) (cx := -cy) (cy:=cx) (dx := -dy) (dy:=dx) (by omega) (by omega) (by rw [n1,n2 cx cy dx dy ax ay]; omega) (by rw [n1,n1,n2 ax ay bx by' cx cy,n2 ax ay bx by' dx dy]; omega) (by rw [n1,n1,n2 ax ay bx by' cx cy,n2 ax ay bx by' dx dy]; omega) (by omega)
   rw [n1,n1,n2 ax ay bx by' cx cy,n2 ax ay bx by' dx dy] at this
   unfold InB at this ⊢
   omega
theorem sd_N (ax ay bx by' cx cy:Int):sdV ax ay bx by' cx cy=cmpI (nV ax ay bx by' cx cy) 0:=by
 unfold sdV nV cmpI
 generalize (bx - ax)*(cy - ay)=p
 generalize (by' - ay)*(cx - ax)=q
 split <;> split <;> (try split) <;> (try split) <;> omega
theorem sgn_mul {p q:Int}:(0 < cmpI p 0*cmpI q 0↔(0 < p∧0 < q)∨(p < 0∧q < 0))∧(cmpI p 0*cmpI q 0 < 0↔(0 < p∧q < 0)∨(p < 0∧0 < q)):=by
 unfold cmpI
 rcases Int.lt_trichotomy p 0 with h | h | h <;> rcases Int.lt_trichotomy q 0 with g | g | g <;> (split <;> (try split) <;> (try split) <;> (try split) <;> omega)
theorem ho_is (ax ay bx by' px py:Int):hoV ax ay bx by' px py=true↔nV ax ay bx by' px py=0∧InB ax ay bx by' px py:=by
 unfold hoV mtV InB
 rw [sd_N,Bool.and_eq_true,decide_eq_true_iff,decide_eq_true_iff]
 have:cmpI (nV ax ay bx by' px py) 0=0↔nV ax ay bx by' px py=0:=by unfold cmpI; split <;> (try split) <;> omega
 rw [this]
 omega
theorem n_turn (ax ay bx by' px py:Int):nV bx by' ax ay px py = - nV ax ay bx by' px py:=by unfold nV; grind
theorem on_sw {ax ay bx by' px py:Int} (h:nV bx by' ax ay px py=0∧InB bx by' ax ay px py):nV ax ay bx by' px py=0∧InB ax ay bx by' px py:=by
 rw [n_turn] at h
 obtain ⟨h1,⟨h2,h3⟩,h4,h5⟩:=h
 refine ⟨by omega,⟨?_,?_⟩,?_,?_⟩ <;> omega
/-- The sides of both ends of a segment, multiplied. -/
def sS (ax ay bx by' cx cy dx dy:Int):Int:=sdV cx cy dx dy ax ay*sdV cx cy dx dy bx by'
/-- Whether the boxes of two segments meet. -/
def bxM (ax ay bx by' cx cy dx dy:Int):Bool:=mtV (min ax bx) (min ay by') (max ax bx) (max ay by') (min cx dx) (min cy dy) (max cx dx) (max cy dy)
theorem bxM_is (ax ay bx by' cx cy dx dy:Int):bxM ax ay bx by' cx cy dx dy=true↔(min cx dx≤max ax bx∧min ax bx≤max cx dx)∧min cy dy≤max ay by'∧min ay by'≤max cy dy:=by
 unfold bxM mtV
 rw [decide_eq_true_iff]
 omega
theorem ho_one {ax ay bx by' cx cy dx dy:Int} (hb:bxM ax ay bx by' cx cy dx dy=true) (h:¬ (0 < sS ax ay bx by' cx cy dx dy∨0 < sS cx cy dx dy ax ay bx by')) (g:¬ (sS ax ay bx by' cx cy dx dy < 0∧sS cx cy dx dy ax ay bx by' < 0)):hoV cx cy dx dy ax ay=true∨hoV cx cy dx dy bx by'=true∨hoV ax ay bx by' cx cy=true∨hoV ax ay bx by' dx dy=true:=by
 rw [bxM_is] at hb
 unfold sS at h g
 simp only [sd_N,sgn_mul.1,sgn_mul.2] at h g
 simp only [ho_is]
 have f:∀ p q r s:Int,¬ (((0 < p∧0 < q)∨(p < 0∧q < 0))∨((0 < r∧0 < s)∨(r < 0∧s < 0)))→¬ (((0 < p∧q < 0)∨(p < 0∧0 < q))∧((0 < r∧s < 0)∨(r < 0∧0 < s)))→(p=0∨q=0∨r=0∨s=0)∧((¬ 0 < p∨¬ 0 < q)∧(¬ p < 0∨¬ q < 0))∧((¬ 0 < r∨¬ 0 < s)∧(¬ r < 0∨¬ s < 0)):=by
  intro p q r s h g
  refine ⟨?_,⟨?_,?_⟩,?_,?_⟩ <;> omega
 obtain ⟨e,⟨a1,a2⟩,a3,a4⟩:=f _ _ _ _ h g
 clear h g f
 have hb2:(min ax bx≤max cx dx∧min cx dx≤max ax bx)∧min ay by'≤max cy dy∧min cy dy≤max ay by':=⟨⟨hb.1.2,hb.1.1⟩,hb.2.2,hb.2.1⟩
 rcases e with e | e | e | e
 ·rcases ne_two e a3 a4 hb with i | i | i
  ·exact .inl ⟨e,i⟩
  ·exact .inr (.inr (.inl i))
  exact .inr (.inr (.inr i))
 ·rcases ne_two (ax:=bx) (ay:=by') (bx:=ax) (by':=ay) e (by rw [n_turn,n_turn ax ay bx by' dx dy]; omega) (by rw [n_turn,n_turn ax ay bx by' dx dy]; omega) (by rw [Int.max_comm bx ax,Int.min_comm bx ax,Int.max_comm by' ay,Int.min_comm by' ay]; exact hb) with i | i | i
  ·exact .inr (.inl ⟨e,i⟩)
  ·exact .inr (.inr (.inl (on_sw i)))
  exact .inr (.inr (.inr (on_sw i)))
 ·rcases ne_two e a1 a2 hb2 with i | i | i
  ·exact .inr (.inr (.inl ⟨e,i⟩))
  ·exact .inl i
  exact .inr (.inl i)
 ·rcases ne_two (ax:=dx) (ay:=dy) (bx:=cx) (by':=cy) e (by rw [n_turn,n_turn cx cy dx dy bx by']; omega) (by rw [n_turn,n_turn cx cy dx dy bx by']; omega) (by rw [Int.max_comm dx cx,Int.min_comm dx cx,Int.max_comm dy cy,Int.min_comm dy cy]; exact hb2) with i | i | i
  ·exact .inr (.inr (.inr ⟨e,i⟩))
  ·exact .inl (on_sw i)
  ·exact .inr (.inl (on_sw i))
/-- The ends of two segments that lie on the other one. -/
def edL (ax ay bx by' cx cy dx dy:Int):List Pt4:=enK [(hoV cx cy dx dy ax ay,ax,ay),(hoV cx cy dx dy bx by',bx,by'),(hoV ax ay bx by' cx cy,cx,cy),(hoV ax ay bx by' dx dy,dx,dy)] 4
/-- Where two segments cross. -/
def crX (ax ay bx by' cx cy dx dy:Int):Pt4:=(owP ax 1 bx 1 (crT (aN cx cy dx dy ax ay) (aN cx cy dx dy bx by')) (crU (aN cx cy dx dy ax ay) (aN cx cy dx dy bx by')),owQ ax 1 bx 1 (crT (aN cx cy dx dy ax ay) (aN cx cy dx dy bx by')) (crU (aN cx cy dx dy ax ay) (aN cx cy dx dy bx by')),owP ay 1 by' 1 (crT (aN cx cy dx dy ax ay) (aN cx cy dx dy bx by')) (crU (aN cx cy dx dy ax ay) (aN cx cy dx dy bx by')),owQ ay 1 by' 1 (crT (aN cx cy dx dy ax ay) (aN cx cy dx dy bx by')) (crU (aN cx cy dx dy ax ay) (aN cx cy dx dy bx by')))
/-- What two segments have in common. -/
def cutV (ax ay bx by' cx cy dx dy:Int):Int × Pt4 × Pt4:=if bxM ax ay bx by' cx cy dx dy=true then (if 0 < sS ax ay bx by' cx cy dx dy∨0 < sS cx cy dx dy ax ay bx by' then (0,(0,1,0,1),(0,1,0,1)) else if sS ax ay bx by' cx cy dx dy < 0∧sS cx cy dx dy ax ay bx by' < 0 then (1,crX ax ay bx by' cx cy dx dy,(0,1,0,1)) else enC (edL ax ay bx by' cx cy dx dy)) else (0,(0,1,0,1),(0,1,0,1))
theorem ed_len {ax ay bx by' cx cy dx dy:Int} (h:hoV cx cy dx dy ax ay=true∨hoV cx cy dx dy bx by'=true∨hoV ax ay bx by' cx cy=true∨hoV ax ay bx by' dx dy=true):1≤(edL ax ay bx by' cx cy dx dy).length:=by
 have hm:∀ (l:List (Bool × Int × Int)) (x:Bool × Int × Int),x ∈ l→x.1=true→1≤(l.flatMap e7).length:=by
  intro l x hx h1
  have:(x.2.1,1,x.2.2,1) ∈ l.flatMap e7:=List.mem_flatMap.2 ⟨x,hx,by unfold e7; rw [if_pos h1]; exact List.mem_cons_self ..⟩
  exact List.length_pos_of_mem this
 unfold edL enK
 rw [List.take_of_length_le (by simp)]
 rcases h with h | h | h | h
 ·exact hm _ (hoV cx cy dx dy ax ay,ax,ay) (by simp) h
 ·exact hm _ (hoV cx cy dx dy bx by',bx,by') (by simp) h
 ·exact hm _ (hoV ax ay bx by' cx cy,cx,cy) (by simp) h
 ·exact hm _ (hoV ax ay bx by' dx dy,dx,dy) (by simp) h
theorem cut_a {ax ay bx by' cx cy dx dy:Int} (h:bxM ax ay bx by' cx cy dx dy=false):cutV ax ay bx by' cx cy dx dy=(0,(0,1,0,1),(0,1,0,1)):=by unfold cutV; rw [if_neg (by rw [h]; decide)]
theorem cut_p {ax ay bx by' cx cy dx dy u v:Int} (h:bxM ax ay bx by' cx cy dx dy=true) (hu:sS ax ay bx by' cx cy dx dy=u) (hv:sS cx cy dx dy ax ay bx by'=v) (g:0 < u∨0 < v):cutV ax ay bx by' cx cy dx dy=(0,(0,1,0,1),(0,1,0,1)):=by unfold cutV; rw [if_pos h,hu,hv,if_pos g]
theorem cut_c {ax ay bx by' cx cy dx dy u v:Int} (h:bxM ax ay bx by' cx cy dx dy=true) (hu:sS ax ay bx by' cx cy dx dy=u) (hv:sS cx cy dx dy ax ay bx by'=v) (g:u < 0∧v < 0):cutV ax ay bx by' cx cy dx dy=(1,crX ax ay bx by' cx cy dx dy,(0,1,0,1)):=by unfold cutV; rw [if_pos h,hu,hv,if_neg (by omega),if_pos g]
theorem cut_c2 {ax ay bx by' cx cy dx dy u v:Int} {z:Pt4} (h:bxM ax ay bx by' cx cy dx dy=true) (hu:sS ax ay bx by' cx cy dx dy=u) (hv:sS cx cy dx dy ax ay bx by'=v) (g:u < 0∧v < 0) (hz:crX ax ay bx by' cx cy dx dy=z):cutV ax ay bx by' cx cy dx dy=(1,z,(0,1,0,1)):=by rw [cut_c h hu hv g,hz]
theorem cut_e {ax ay bx by' cx cy dx dy u v:Int} (h:bxM ax ay bx by' cx cy dx dy=true) (hu:sS ax ay bx by' cx cy dx dy=u) (hv:sS cx cy dx dy ax ay bx by'=v) (g:¬ (0 < u∨0 < v)) (k:¬ (u < 0∧v < 0)):cutV ax ay bx by' cx cy dx dy=enC (edL ax ay bx by' cx cy dx dy)∧1≤(edL ax ay bx by' cx cy dx dy).length:=by
 subst hu; subst hv
 exact ⟨by unfold cutV; rw [if_pos h,if_neg g,if_neg k],ed_len (ho_one h g k)⟩
set_option maxRecDepth 100000 in
set_option maxHeartbeats 12800000 in
theorem meet_any (ax ay bx by' cx cy dx dy:Int) (x:Int × Pt4 × Pt4) (w:World) (ha:(vdP (ax,ay)=0∧vdP (bx,by')=0)) (hb:(vdP (cx,cy)=0∧vdP (dx,dy)=0)) (hx:cutV ax ay bx by' cx cy dx dy=x) :
  Calls Tryz.prog 42 #[.agg #[.int .i64 ax,.int .i64 ay,.int .i64 bx,.int .i64 by'],.agg #[.int .i64 cx,.int .i64 cy,.int .i64 dx,.int .i64 dy]] w (RetCt7 x w):=by
 have HA:=hJ ha
 have HB:=hJ hb
 have HX:=hJ hx
 clear ha hb hx
 obtain ⟨bm,hbm⟩:=nmz (bxM ax ay bx by' cx cy dx dy)
 obtain ⟨u,hu⟩:=nmz (sS ax ay bx by' cx cy dx dy)
 obtain ⟨vv,hv⟩:=nmz (sS cx cy dx dy ax ay bx by')
 have aD:=hJ (show mtV (min ax bx) (min ay by') (max ax bx) (max ay by') (min cx dx) (min cy dy) (max cx dx) (max cy dy)=bm from hbm)
 have HU:=hJ (show sdV cx cy dx dy ax ay*sdV cx cy dx dy bx by'=u from hu)
 have HV:=hJ (show sdV ax ay bx by' cx cy*sdV ax ay bx by' dx dy=vv from hv)
 clear hbm hu hv
 obtain ⟨x1,aO⟩:=nmz (((w.alloc (.cells #[.int .i64 ax,.int .i64 ay,.int .i64 bx,.int .i64 by'] 25)).alloc (.cells #[.int .i64 cx,.int .i64 cy,.int .i64 dx,.int .i64 dy] 25)).alloc (.cells #[.int .i64 0,.bool false,.slice none 0 0,.bool false,.slice none 0 0,.bool false,.slice none 0 0,.bool false,.slice none 0 0,.bool false,.slice none 0 0,.bool false,.slice none 0 0,.bool false,.slice none 0 0,.bool false,.slice none 0 0] 39))
 have aK:=hJ (show Below w.heap.size w x1 by rw [←aO]; exact ((((Below.refl _ _).alloc (Nat.le_refl _) _).alloc (by simp only [World.size_alloc]; omega) _).alloc (by simp only [World.size_alloc]; omega) _))
 have aR:=hJ (show BX 25 x1 w.heap.size #[.int .i64 ax,.int .i64 ay,.int .i64 bx,.int .i64 by'] by rw [←aO]; exact (((BX.at rfl).alloc _).alloc _))
 have aS:=hJ (show BX 25 x1 (w.heap.size+1) #[.int .i64 cx,.int .i64 cy,.int .i64 dx,.int .i64 dy] by rw [←aO]; exact ((BX.at (by simp only [World.size_alloc])).alloc _))
 have aL:=hJ (show BX 39 x1 (w.heap.size+2) #[.int .i64 0,.bool false,.slice none 0 0,.bool false,.slice none 0 0,.bool false,.slice none 0 0,.bool false,.slice none 0 0,.bool false,.slice none 0 0,.bool false,.slice none 0 0,.bool false,.slice none 0 0,.bool false,.slice none 0 0] by rw [←aO]; exact (BX.at (by simp only [World.size_alloc])))
 have aM:=hJ (show w.heap.size≤w.heap.size+2 by omega)
 have aZ:Hid (∀ w',Below x1.heap.size x1 w'→(fun w':World=>w'.cell? ⟨w.heap.size,0,none⟩=some (.int .i64 ax)∧w'.cell? ⟨w.heap.size,1,none⟩=some (.int .i64 ay)∧w'.cell? ⟨w.heap.size,2,none⟩=some (.int .i64 bx)∧w'.cell? ⟨w.heap.size,3,none⟩=some (.int .i64 by')∧w'.cell? ⟨w.heap.size+1,0,none⟩=some (.int .i64 cx)∧w'.cell? ⟨w.heap.size+1,1,none⟩=some (.int .i64 cy)∧w'.cell? ⟨w.heap.size+1,2,none⟩=some (.int .i64 dx)∧w'.cell? ⟨w.heap.size+1,3,none⟩=some (.int .i64 dy)∧Below x1.heap.size x1 w') w'):=hJ (fun w' hb=>⟨(BX.new aR.out hb).cell 0 rfl,(BX.new aR.out hb).cell 1 rfl,(BX.new aR.out hb).cell 2 rfl,(BX.new aR.out hb).cell 3 rfl,(BX.new aS.out hb).cell 0 rfl,(BX.new aS.out hb).cell 1 rfl,(BX.new aS.out hb).cell 2 rfl,(BX.new aS.out hb).cell 3 rfl,hb⟩)
 go_enter Tryz.func42,Tryz.ntmps42
 go_wp2_with fail
 clear aO
 obtain ⟨v2,hv2⟩:=nmz (World.drew x1)
 have bU:=hJ (show Below x1.heap.size x1 v2 by rw [←hv2]; exact (Below.refl _ _).drew)
 refine whd aZ hv2 (fun hHeld=>?_)
 clear hv2
 refine tq 0 ?_
 refine tq 2 ?_
 try simp only [PT]
 refine ryy [1] ?_
 refine .cons rfl (fun K hK=>?_) .nil
 go_simp
 go_at_call 47
 refine (boxof_any ax ay bx by' v2).mono ?_
 rintro e v3 ⟨rfl,hb⟩
 have bV:=hJ hb
 clear hb
 go_wp2_with fail
 have bG:=hJ (bt bU.out bV.out)
 clear hHeld
 refine hK.out _ _ (aZ.out _ bG.out) (fun hHeld=>?_)
 clear hK K
 try simp only [PT]
 refine ryy [3] ?_
 refine .cons rfl (fun K hK=>?_) .nil
 go_simp
 go_at_call 47
 refine (boxof_any cx cy dx dy v3).mono ?_
 rintro e v4 ⟨rfl,hb⟩
 have bW:=hJ hb
 clear hb
 go_wp2_with fail
 have bH:=hJ (bt bG.out bW.out)
 clear hHeld
 refine hK.out _ _ (aZ.out _ bH.out) (fun hHeld=>?_)
 clear hK K
 try simp only [PT]
 refine ryy [4] ?_
 refine .cons rfl (fun K hK=>?_) .nil
 go_simp
 go_at_call 76
 refine (meets_any (min ax bx) (min ay by') (max ax bx) (max ay by') (min cx dx) (min cy dy) (max cx dx) (max cy dy) v4).mono ?_
 rw [aD.out]
 rintro e v5 ⟨rfl,hb⟩
 have bX:=hJ hb
 clear hb
 go_wp2_with fail
 have aC:=hJ (bt bH.out bX.out)
 clear hHeld
 refine hK.out _ _ (aZ.out _ aC.out) (fun hHeld=>?_)
 clear hK K
 refine tq 5 ?_
 try simp only [PT]
 refine wpAnyH_done (by kernel_rfl) ?_ _
 clear hHeld
 rcases (show bm=true∨bm=false by cases bm <;> simp) with hc | hc
 ·obtain rfl:=hc
  have aG:=hJ (BX.new aR.out aC.out)
  have aH:=hJ (BX.new aS.out aC.out)
  have bA:Hid (∀ w',Below v5.heap.size v5 w'→(fun w':World=>w'.cell? ⟨w.heap.size,0,none⟩=some (.int .i64 ax)∧w'.cell? ⟨w.heap.size,1,none⟩=some (.int .i64 ay)∧w'.cell? ⟨w.heap.size,2,none⟩=some (.int .i64 bx)∧w'.cell? ⟨w.heap.size,3,none⟩=some (.int .i64 by')∧w'.cell? ⟨w.heap.size+1,0,none⟩=some (.int .i64 cx)∧w'.cell? ⟨w.heap.size+1,1,none⟩=some (.int .i64 cy)∧w'.cell? ⟨w.heap.size+1,2,none⟩=some (.int .i64 dx)∧w'.cell? ⟨w.heap.size+1,3,none⟩=some (.int .i64 dy)∧Below v5.heap.size v5 w') w'):=hJ (fun w' hb=>⟨(BX.new aG.out hb).cell 0 rfl,(BX.new aG.out hb).cell 1 rfl,(BX.new aG.out hb).cell 2 rfl,(BX.new aG.out hb).cell 3 rfl,(BX.new aH.out hb).cell 0 rfl,(BX.new aH.out hb).cell 1 rfl,(BX.new aH.out hb).cell 2 rfl,(BX.new aH.out hb).cell 3 rfl,hb⟩)
  go_wp2_with fail
  obtain ⟨v6,hv6⟩:=nmz (World.drew v5)
  have bY:=hJ (show Below v5.heap.size v5 v6 by rw [←hv6]; exact (Below.refl _ _).drew)
  refine whd bA hv6 (fun hHeld=>?_)
  clear hv6
  refine tq 0 ?_
  refine tq 1 ?_
  refine tq 3 ?_
  refine tq 4 ?_
  try simp only [PT]
  refine ryy [2] ?_
  refine .cons rfl (fun K hK=>?_) .nil
  go_simp
  go_at_call 77
  refine (sides_any ax ay bx by' cx cy dx dy v6 HA.out HB.out).mono ?_
  rw [HU.out]
  rintro e v7 ⟨rfl,hb⟩
  have bZ:=hJ hb
  clear hb
  go_wp2_with fail
  have bJ:=hJ (bt bY.out bZ.out)
  clear hHeld
  refine hK.out _ _ (bA.out _ bJ.out) (fun hHeld=>?_)
  clear hK K
  try simp only [PT]
  refine ryy [5] ?_
  refine .cons rfl (fun K hK=>?_) .nil
  go_simp
  go_at_call 77
  refine (sides_any cx cy dx dy ax ay bx by' v7 HB.out HA.out).mono ?_
  rw [HV.out]
  rintro e v8 ⟨rfl,hb⟩
  have cA:=hJ hb
  clear hb
  go_wp2_with fail
  have aB:=hJ (bt bJ.out cA.out)
  clear hHeld
  refine hK.out _ _ (bA.out _ aB.out) (fun hHeld=>?_)
  clear hK K
  refine tq 6 ?_
  refine tq 7 ?_
  try simp only [PT]
  refine wpAnyH_done (by kernel_rfl) ?_ _
  clear hHeld
  rcases (show 0 < u∨(¬ 0 < u∧0 < vv)∨(¬ 0 < u∧¬ 0 < vv) by omega) with h1 | ⟨h1,h2⟩ | ⟨h1,h2⟩
  ·have hd1:decide (0 < u)=true:=decide_eq_true h1
   have HC:=hJ (show 0 < u∨0 < vv from .inl h1)
   clear h1
   have bB:=hJ (bt aC.out aB.out)
   have aT:=hJ (BX.new aL.out bB.out)
   obtain ⟨x9,bK⟩:=nmz (sto v8 (w.heap.size+2) 0 [.int .i64 0,.bool false,.slice none 0 0,.bool false,.slice none 0 0,.bool false,.slice none 0 0,.bool false,.slice none 0 0,.bool false,.slice none 0 0,.bool false,.slice none 0 0,.bool false,.slice none 0 0,.bool false,.slice none 0 0])
   have bC:=hJ bK
   have cB:=hJ (show BX 39 x9 (w.heap.size+2) #[.int .i64 0,.bool false,.slice none 0 0,.bool false,.slice none 0 0,.bool false,.slice none 0 0,.bool false,.slice none 0 0,.bool false,.slice none 0 0,.bool false,.slice none 0 0,.bool false,.slice none 0 0,.bool false,.slice none 0 0] by rw [←bC.out]; exact BX.put_all aT.out [.int .i64 0,.bool false,.slice none 0 0,.bool false,.slice none 0 0,.bool false,.slice none 0 0,.bool false,.slice none 0 0,.bool false,.slice none 0 0,.bool false,.slice none 0 0,.bool false,.slice none 0 0,.bool false,.slice none 0 0] (by simp))
   have bD:=hJ (show Below w.heap.size w x9 by rw [←bC.out]; exact below_sto (bt (bt aK.out aC.out) aB.out) aM.out _ _)
   go_wp2_with (refine wpList_st 39 (.tmp 4) (.tmp 30) rfl ?_; refine wpList_store_sto (w.heap.size+2) 0 [.int .i64 0,.bool false,.slice none 0 0,.bool false,.slice none 0 0,.bool false,.slice none 0 0,.bool false,.slice none 0 0,.bool false,.slice none 0 0,.bool false,.slice none 0 0,.bool false,.slice none 0 0,.bool false,.slice none 0 0] aT.out (by simp) bC.out rfl _ _ _ rfl rfl rfl (by kernel_rfl) rfl ?_)
   clear bK
   exact bodyPost_ret (results_cell_row rfl _ _ _ _ _ _ _ rfl cB.out Tryz.underlying39 rfl (by kernel_rfl)) rfl (RetCt7.of ((cut_p (show bxM ax ay bx by' cx cy dx dy=true from aD.out) HU.out HV.out HC.out).symm.trans HX.out) ⟨false,none,0,0,false,none,0,0,false,none,0,0,false,none,0,0,false,none,0,0,false,none,0,0,false,none,0,0,false,none,0,0,rfl,(pf_zero7 _),(pf_zero7 _),(pf_zero7 _),(pf_zero7 _),bD.out⟩)
  ·have hd1:decide (0 < u)=false:=decide_eq_false h1
   have hd2:decide (0 < vv)=true:=decide_eq_true h2
   have HC:=hJ (show 0 < u∨0 < vv from .inr h2)
   clear h1 h2
   have bB:=hJ (bt aC.out aB.out)
   have aT:=hJ (BX.new aL.out bB.out)
   obtain ⟨x10,bL⟩:=nmz (sto v8 (w.heap.size+2) 0 [.int .i64 0,.bool false,.slice none 0 0,.bool false,.slice none 0 0,.bool false,.slice none 0 0,.bool false,.slice none 0 0,.bool false,.slice none 0 0,.bool false,.slice none 0 0,.bool false,.slice none 0 0,.bool false,.slice none 0 0])
   have bE:=hJ bL
   have cC:=hJ (show BX 39 x10 (w.heap.size+2) #[.int .i64 0,.bool false,.slice none 0 0,.bool false,.slice none 0 0,.bool false,.slice none 0 0,.bool false,.slice none 0 0,.bool false,.slice none 0 0,.bool false,.slice none 0 0,.bool false,.slice none 0 0,.bool false,.slice none 0 0] by rw [←bE.out]; exact BX.put_all aT.out [.int .i64 0,.bool false,.slice none 0 0,.bool false,.slice none 0 0,.bool false,.slice none 0 0,.bool false,.slice none 0 0,.bool false,.slice none 0 0,.bool false,.slice none 0 0,.bool false,.slice none 0 0,.bool false,.slice none 0 0] (by simp))
   have bD:=hJ (show Below w.heap.size w x10 by rw [←bE.out]; exact below_sto (bt (bt aK.out aC.out) aB.out) aM.out _ _)
   go_wp2_with (refine wpList_st 39 (.tmp 4) (.tmp 30) rfl ?_; refine wpList_store_sto (w.heap.size+2) 0 [.int .i64 0,.bool false,.slice none 0 0,.bool false,.slice none 0 0,.bool false,.slice none 0 0,.bool false,.slice none 0 0,.bool false,.slice none 0 0,.bool false,.slice none 0 0,.bool false,.slice none 0 0,.bool false,.slice none 0 0] aT.out (by simp) bE.out rfl _ _ _ rfl rfl rfl (by kernel_rfl) rfl ?_)
   clear bL
   exact bodyPost_ret (results_cell_row rfl _ _ _ _ _ _ _ rfl cC.out Tryz.underlying39 rfl (by kernel_rfl)) rfl (RetCt7.of ((cut_p (show bxM ax ay bx by' cx cy dx dy=true from aD.out) HU.out HV.out HC.out).symm.trans HX.out) ⟨false,none,0,0,false,none,0,0,false,none,0,0,false,none,0,0,false,none,0,0,false,none,0,0,false,none,0,0,false,none,0,0,rfl,(pf_zero7 _),(pf_zero7 _),(pf_zero7 _),(pf_zero7 _),bD.out⟩)
  have hd1:decide (0 < u)=false:=decide_eq_false h1
  have hd2:decide (0 < vv)=false:=decide_eq_false h2
  have HG:=hJ (And.intro h1 h2)
  clear h1 h2
  rcases (show (u < 0∧vv < 0)∨(u < 0∧¬ vv < 0)∨¬ u < 0 by omega) with ⟨h1,h2⟩ | ⟨h1,h2⟩ | h1
  ·have hd3:decide (u < 0)=true:=decide_eq_true h1
   have hd4:decide (vv < 0)=true:=decide_eq_true h2
   have HC:=hJ (And.intro h1 h2)
   clear h1 h2
   have aU:=hJ (BX.new aG.out aB.out)
   obtain ⟨cD,cE,cF,cG⟩:=aU.out.c4 0 1 2 3 rfl rfl rfl rfl
   have aV:=hJ (BX.new aH.out aB.out)
   obtain ⟨cH,cI,cJ,cK⟩:=aV.out.c4 0 1 2 3 rfl rfl rfl rfl
   obtain ⟨⟨r0,r1,r2,r3⟩,hcr⟩:=nmz (crX ax ay bx by' cx cy dx dy)
   have cL:=hJ hcr
   have cM:=hJ (show owP ax 1 bx 1 (crT (aN cx cy dx dy ax ay) (aN cx cy dx dy bx by')) (crU (aN cx cy dx dy ax ay) (aN cx cy dx dy bx by'))=r0 from congrArg (fun z:Pt4=>z.1) hcr)
   have cN:=hJ (show owQ ax 1 bx 1 (crT (aN cx cy dx dy ax ay) (aN cx cy dx dy bx by')) (crU (aN cx cy dx dy ax ay) (aN cx cy dx dy bx by'))=r1 from congrArg (fun z:Pt4=>z.2.1) hcr)
   have cO:=hJ (show owP ay 1 by' 1 (crT (aN cx cy dx dy ax ay) (aN cx cy dx dy bx by')) (crU (aN cx cy dx dy ax ay) (aN cx cy dx dy bx by'))=r2 from congrArg (fun z:Pt4=>z.2.2.1) hcr)
   have cP:=hJ (show owQ ay 1 by' 1 (crT (aN cx cy dx dy ax ay) (aN cx cy dx dy bx by')) (crU (aN cx cy dx dy ax ay) (aN cx cy dx dy bx by'))=r3 from congrArg (fun z:Pt4=>z.2.2.2) hcr)
   clear hcr
   go_wp2_with fail
   clear cD cE cF cG cH cI cJ cK
   refine (crossing_any ax ay bx by' cx cy dx dy v8 HA.out HB.out).mono ?_
   rw [cM.out,cN.out,cO.out,cP.out]
   rintro e w19 ⟨s11,A11,n11,c11,t11,B11,m11,d11,s12,A12,n12,c12,t12,B12,m12,d12,rfl,hr11,hr12,hb⟩
   have bM:=hJ hb
   have cQ:=hJ hr11
   have cR:=hJ hr12
   clear hb hr11 hr12
   have aW:=hJ (bt (bt aC.out aB.out) bM.out)
   have aA:=hJ (BX.new aL.out aW.out)
   obtain ⟨x20,bN⟩:=nmz (sto w19 (w.heap.size+2) 0 [.int .i64 1,.bool s11,.slice A11 n11 c11,.bool t11,.slice B11 m11 d11,.bool s12,.slice A12 n12 c12,.bool t12,.slice B12 m12 d12,.bool false,.slice none 0 0,.bool false,.slice none 0 0,.bool false,.slice none 0 0,.bool false,.slice none 0 0])
   have aX:=hJ bN
   have cS:=hJ (show BX 39 x20 (w.heap.size+2) #[.int .i64 1,.bool s11,.slice A11 n11 c11,.bool t11,.slice B11 m11 d11,.bool s12,.slice A12 n12 c12,.bool t12,.slice B12 m12 d12,.bool false,.slice none 0 0,.bool false,.slice none 0 0,.bool false,.slice none 0 0,.bool false,.slice none 0 0] by rw [←aX.out]; exact BX.put_all aA.out [.int .i64 1,.bool s11,.slice A11 n11 c11,.bool t11,.slice B11 m11 d11,.bool s12,.slice A12 n12 c12,.bool t12,.slice B12 m12 d12,.bool false,.slice none 0 0,.bool false,.slice none 0 0,.bool false,.slice none 0 0,.bool false,.slice none 0 0] (by simp))
   have aY:=hJ (show Below w.heap.size w x20 by rw [←aX.out]; exact below_sto (bt (bt (bt aK.out aC.out) aB.out) bM.out) aM.out _ _)
   have cT:=hJ (show PF x20 s11 A11 n11 c11 t11 B11 m11 d11 r0 r1 by rw [←aX.out]; exact PF.sto cQ.out aA.out rfl _ _)
   have cU:=hJ (show PF x20 s12 A12 n12 c12 t12 B12 m12 d12 r2 r3 by rw [←aX.out]; exact PF.sto cR.out aA.out rfl _ _)
   go_wp2_with (refine wpList_st 39 (.tmp 4) (.tmp 41) rfl ?_; refine wpList_store_sto (w.heap.size+2) 0 [.int .i64 1,.bool s11,.slice A11 n11 c11,.bool t11,.slice B11 m11 d11,.bool s12,.slice A12 n12 c12,.bool t12,.slice B12 m12 d12,.bool false,.slice none 0 0,.bool false,.slice none 0 0,.bool false,.slice none 0 0,.bool false,.slice none 0 0] aA.out (by simp) aX.out rfl _ _ _ rfl rfl rfl (by kernel_rfl) rfl ?_)
   clear bN
   exact bodyPost_ret (results_cell_row rfl _ _ _ _ _ _ _ rfl cS.out Tryz.underlying39 rfl (by kernel_rfl)) rfl (RetCt7.of ((cut_c2 (show bxM ax ay bx by' cx cy dx dy=true from aD.out) HU.out HV.out HC.out cL.out).symm.trans HX.out) ⟨s11,A11,n11,c11,t11,B11,m11,d11,s12,A12,n12,c12,t12,B12,m12,d12,false,none,0,0,false,none,0,0,false,none,0,0,false,none,0,0,rfl,cT.out,cU.out,(pf_zero7 _),(pf_zero7 _),aY.out⟩)
  ·have hd3:decide (u < 0)=true:=decide_eq_true h1
   have hd4:decide (vv < 0)=false:=decide_eq_false h2
   have HK:=hJ (show ¬ (u < 0∧vv < 0) from fun h=>h2 h.2)
   have HC:=hJ (cut_e (show bxM ax ay bx by' cx cy dx dy=true from aD.out) HU.out HV.out (fun h=>h.elim HG.out.1 HG.out.2) (fun h=>HK.out h))
   clear h1 h2
   have aU:=hJ (BX.new aG.out aB.out)
   obtain ⟨cV,cW,cX,cY⟩:=aU.out.c4 0 1 2 3 rfl rfl rfl rfl
   have aV:=hJ (BX.new aH.out aB.out)
   obtain ⟨cZ,dA,dB,dD⟩:=aV.out.c4 0 1 2 3 rfl rfl rfl rfl
   go_wp2_with fail
   clear cV cW cX cY cZ dA dB dD
   refine (ends_any ax ay bx by' cx cy dx dy x v8 HA.out HB.out HC.out.2 (HC.out.1.symm.trans HX.out)).mono ?_
   rintro e w29 ⟨s13,A13,n13,c13,t13,B13,m13,d13,s14,A14,n14,c14,t14,B14,m14,d14,s15,A15,n15,c15,t15,B15,m15,d15,s16,A16,n16,c16,t16,B16,m16,d16,rfl,hr13,hr14,hr15,hr16,hb⟩
   have bO:=hJ hb
   have dE:=hJ hr13
   have dG:=hJ hr14
   have dH:=hJ hr15
   have dI:=hJ hr16
   clear hb hr13 hr14 hr15 hr16
   have aW:=hJ (bt (bt aC.out aB.out) bO.out)
   have aA:=hJ (BX.new aL.out aW.out)
   obtain ⟨x30,bP⟩:=nmz (sto w29 (w.heap.size+2) 0 [.int .i64 x.1,.bool s13,.slice A13 n13 c13,.bool t13,.slice B13 m13 d13,.bool s14,.slice A14 n14 c14,.bool t14,.slice B14 m14 d14,.bool s15,.slice A15 n15 c15,.bool t15,.slice B15 m15 d15,.bool s16,.slice A16 n16 c16,.bool t16,.slice B16 m16 d16])
   have aI:=hJ bP
   have dJ:=hJ (show BX 39 x30 (w.heap.size+2) #[.int .i64 x.1,.bool s13,.slice A13 n13 c13,.bool t13,.slice B13 m13 d13,.bool s14,.slice A14 n14 c14,.bool t14,.slice B14 m14 d14,.bool s15,.slice A15 n15 c15,.bool t15,.slice B15 m15 d15,.bool s16,.slice A16 n16 c16,.bool t16,.slice B16 m16 d16] by rw [←aI.out]; exact BX.put_all aA.out [.int .i64 x.1,.bool s13,.slice A13 n13 c13,.bool t13,.slice B13 m13 d13,.bool s14,.slice A14 n14 c14,.bool t14,.slice B14 m14 d14,.bool s15,.slice A15 n15 c15,.bool t15,.slice B15 m15 d15,.bool s16,.slice A16 n16 c16,.bool t16,.slice B16 m16 d16] (by simp))
   have aY:=hJ (show Below w.heap.size w x30 by rw [←aI.out]; exact below_sto (bt (bt (bt aK.out aC.out) aB.out) bO.out) aM.out _ _)
   have dK:=hJ (show PF x30 s13 A13 n13 c13 t13 B13 m13 d13 x.2.1.1 x.2.1.2.1 by rw [←aI.out]; exact PF.sto dE.out aA.out rfl _ _)
   have dL:=hJ (show PF x30 s14 A14 n14 c14 t14 B14 m14 d14 x.2.1.2.2.1 x.2.1.2.2.2 by rw [←aI.out]; exact PF.sto dG.out aA.out rfl _ _)
   have dM:=hJ (show PF x30 s15 A15 n15 c15 t15 B15 m15 d15 x.2.2.1 x.2.2.2.1 by rw [←aI.out]; exact PF.sto dH.out aA.out rfl _ _)
   have dN:=hJ (show PF x30 s16 A16 n16 c16 t16 B16 m16 d16 x.2.2.2.2.1 x.2.2.2.2.2 by rw [←aI.out]; exact PF.sto dI.out aA.out rfl _ _)
   go_wp2_with (refine wpList_st 39 (.tmp 4) (.tmp 22) rfl ?_; refine wpList_store_sto (w.heap.size+2) 0 [.int .i64 x.1,.bool s13,.slice A13 n13 c13,.bool t13,.slice B13 m13 d13,.bool s14,.slice A14 n14 c14,.bool t14,.slice B14 m14 d14,.bool s15,.slice A15 n15 c15,.bool t15,.slice B15 m15 d15,.bool s16,.slice A16 n16 c16,.bool t16,.slice B16 m16 d16] aA.out (by simp) aI.out rfl _ _ _ rfl rfl rfl (by kernel_rfl) rfl ?_)
   clear bP
   exact bodyPost_ret (results_cell_row rfl _ _ _ _ _ _ _ rfl dJ.out Tryz.underlying39 rfl (by kernel_rfl)) rfl ⟨s13,A13,n13,c13,t13,B13,m13,d13,s14,A14,n14,c14,t14,B14,m14,d14,s15,A15,n15,c15,t15,B15,m15,d15,s16,A16,n16,c16,t16,B16,m16,d16,rfl,dK.out,dL.out,dM.out,dN.out,aY.out⟩
  have hd3:decide (u < 0)=false:=decide_eq_false h1
  have HK:=hJ (show ¬ (u < 0∧vv < 0) from fun h=>h1 h.1)
  have HC:=hJ (cut_e (show bxM ax ay bx by' cx cy dx dy=true from aD.out) HU.out HV.out (fun h=>h.elim HG.out.1 HG.out.2) (fun h=>HK.out h))
  clear h1
  have aU:=hJ (BX.new aG.out aB.out)
  obtain ⟨dO,dP,dQ,dR⟩:=aU.out.c4 0 1 2 3 rfl rfl rfl rfl
  have aV:=hJ (BX.new aH.out aB.out)
  obtain ⟨dS,dT,dU,dW⟩:=aV.out.c4 0 1 2 3 rfl rfl rfl rfl
  go_wp2_with fail
  clear dO dP dQ dR dS dT dU dW
  refine (ends_any ax ay bx by' cx cy dx dy x v8 HA.out HB.out HC.out.2 (HC.out.1.symm.trans HX.out)).mono ?_
  rintro e w39 ⟨s17,A17,n17,c17,t17,B17,m17,d17,s18,A18,n18,c18,t18,B18,m18,d18,s19,A19,n19,c19,t19,B19,m19,d19,s20,A20,n20,c20,t20,B20,m20,d20,rfl,hr17,hr18,hr19,hr20,hb⟩
  have bQ:=hJ hb
  have dX:=hJ hr17
  have dY:=hJ hr18
  have dZ:=hJ hr19
  have eA:=hJ hr20
  clear hb hr17 hr18 hr19 hr20
  have aW:=hJ (bt (bt aC.out aB.out) bQ.out)
  have aA:=hJ (BX.new aL.out aW.out)
  obtain ⟨x40,bR⟩:=nmz (sto w39 (w.heap.size+2) 0 [.int .i64 x.1,.bool s17,.slice A17 n17 c17,.bool t17,.slice B17 m17 d17,.bool s18,.slice A18 n18 c18,.bool t18,.slice B18 m18 d18,.bool s19,.slice A19 n19 c19,.bool t19,.slice B19 m19 d19,.bool s20,.slice A20 n20 c20,.bool t20,.slice B20 m20 d20])
  have aJ:=hJ bR
  have eB:=hJ (show BX 39 x40 (w.heap.size+2) #[.int .i64 x.1,.bool s17,.slice A17 n17 c17,.bool t17,.slice B17 m17 d17,.bool s18,.slice A18 n18 c18,.bool t18,.slice B18 m18 d18,.bool s19,.slice A19 n19 c19,.bool t19,.slice B19 m19 d19,.bool s20,.slice A20 n20 c20,.bool t20,.slice B20 m20 d20] by rw [←aJ.out]; exact BX.put_all aA.out [.int .i64 x.1,.bool s17,.slice A17 n17 c17,.bool t17,.slice B17 m17 d17,.bool s18,.slice A18 n18 c18,.bool t18,.slice B18 m18 d18,.bool s19,.slice A19 n19 c19,.bool t19,.slice B19 m19 d19,.bool s20,.slice A20 n20 c20,.bool t20,.slice B20 m20 d20] (by simp))
  have aY:=hJ (show Below w.heap.size w x40 by rw [←aJ.out]; exact below_sto (bt (bt (bt aK.out aC.out) aB.out) bQ.out) aM.out _ _)
  have eC:=hJ (show PF x40 s17 A17 n17 c17 t17 B17 m17 d17 x.2.1.1 x.2.1.2.1 by rw [←aJ.out]; exact PF.sto dX.out aA.out rfl _ _)
  have eD:=hJ (show PF x40 s18 A18 n18 c18 t18 B18 m18 d18 x.2.1.2.2.1 x.2.1.2.2.2 by rw [←aJ.out]; exact PF.sto dY.out aA.out rfl _ _)
  have eE:=hJ (show PF x40 s19 A19 n19 c19 t19 B19 m19 d19 x.2.2.1 x.2.2.2.1 by rw [←aJ.out]; exact PF.sto dZ.out aA.out rfl _ _)
  have eF:=hJ (show PF x40 s20 A20 n20 c20 t20 B20 m20 d20 x.2.2.2.2.1 x.2.2.2.2.2 by rw [←aJ.out]; exact PF.sto eA.out aA.out rfl _ _)
  go_wp2_with (refine wpList_st 39 (.tmp 4) (.tmp 22) rfl ?_; refine wpList_store_sto (w.heap.size+2) 0 [.int .i64 x.1,.bool s17,.slice A17 n17 c17,.bool t17,.slice B17 m17 d17,.bool s18,.slice A18 n18 c18,.bool t18,.slice B18 m18 d18,.bool s19,.slice A19 n19 c19,.bool t19,.slice B19 m19 d19,.bool s20,.slice A20 n20 c20,.bool t20,.slice B20 m20 d20] aA.out (by simp) aJ.out rfl _ _ _ rfl rfl rfl (by kernel_rfl) rfl ?_)
  clear bR
  exact bodyPost_ret (results_cell_row rfl _ _ _ _ _ _ _ rfl eB.out Tryz.underlying39 rfl (by kernel_rfl)) rfl ⟨s17,A17,n17,c17,t17,B17,m17,d17,s18,A18,n18,c18,t18,B18,m18,d18,s19,A19,n19,c19,t19,B19,m19,d19,s20,A20,n20,c20,t20,B20,m20,d20,rfl,eC.out,eD.out,eE.out,eF.out,aY.out⟩
 ·obtain rfl:=hc
  have bS:=hJ (BX.new aL.out aC.out)
  obtain ⟨x41,bT⟩:=nmz (sto v5 (w.heap.size+2) 0 [.int .i64 0,.bool false,.slice none 0 0,.bool false,.slice none 0 0,.bool false,.slice none 0 0,.bool false,.slice none 0 0,.bool false,.slice none 0 0,.bool false,.slice none 0 0,.bool false,.slice none 0 0,.bool false,.slice none 0 0])
  have bF:=hJ bT
  have eG:=hJ (show BX 39 x41 (w.heap.size+2) #[.int .i64 0,.bool false,.slice none 0 0,.bool false,.slice none 0 0,.bool false,.slice none 0 0,.bool false,.slice none 0 0,.bool false,.slice none 0 0,.bool false,.slice none 0 0,.bool false,.slice none 0 0,.bool false,.slice none 0 0] by rw [←bF.out]; exact BX.put_all bS.out [.int .i64 0,.bool false,.slice none 0 0,.bool false,.slice none 0 0,.bool false,.slice none 0 0,.bool false,.slice none 0 0,.bool false,.slice none 0 0,.bool false,.slice none 0 0,.bool false,.slice none 0 0,.bool false,.slice none 0 0] (by simp))
  have eH:=hJ (show Below w.heap.size w x41 by rw [←bF.out]; exact below_sto (bt aK.out aC.out) aM.out _ _)
  go_wp2_with (refine wpList_st 39 (.tmp 4) (.tmp 13) rfl ?_; refine wpList_store_sto (w.heap.size+2) 0 [.int .i64 0,.bool false,.slice none 0 0,.bool false,.slice none 0 0,.bool false,.slice none 0 0,.bool false,.slice none 0 0,.bool false,.slice none 0 0,.bool false,.slice none 0 0,.bool false,.slice none 0 0,.bool false,.slice none 0 0] bS.out (by simp) bF.out rfl _ _ _ rfl rfl rfl (by kernel_rfl) rfl ?_)
  clear bT
  exact bodyPost_ret (results_cell_row rfl _ _ _ _ _ _ _ rfl eG.out Tryz.underlying39 rfl (by kernel_rfl)) rfl (RetCt7.of ((cut_a (show bxM ax ay bx by' cx cy dx dy=false from aD.out)).symm.trans HX.out) ⟨false,none,0,0,false,none,0,0,false,none,0,0,false,none,0,0,false,none,0,0,false,none,0,0,false,none,0,0,false,none,0,0,rfl,(pf_zero7 _),(pf_zero7 _),(pf_zero7 _),(pf_zero7 _),eH.out⟩)
/-- A cut and no error. -/
def RetCt7E (k p0 q0 u0 v0 p1 q1 u1 v1:Int) (w:World) (e:Ending) (w':World):Prop:=∃ (s0:Bool) (A0:Option Addr) (n0 c0:Nat) (t0:Bool) (B0:Option Addr) (m0 d0:Nat) (s1:Bool) (A1:Option Addr) (n1 c1:Nat) (t1:Bool) (B1:Option Addr) (m1 d1:Nat) (s2:Bool) (A2:Option Addr) (n2 c2:Nat) (t2:Bool) (B2:Option Addr) (m2 d2:Nat) (s3:Bool) (A3:Option Addr) (n3 c3:Nat) (t3:Bool) (B3:Option Addr) (m3 d3:Nat),e=.returned (.tuple #[(.agg #[.int .i64 k,.bool s0,.slice A0 n0 c0,.bool t0,.slice B0 m0 d0,.bool s1,.slice A1 n1 c1,.bool t1,.slice B1 m1 d1,.bool s2,.slice A2 n2 c2,.bool t2,.slice B2 m2 d2,.bool s3,.slice A3 n3 c3,.bool t3,.slice B3 m3 d3]),.int .i64 0])∧PF w' s0 A0 n0 c0 t0 B0 m0 d0 p0 q0∧PF w' s1 A1 n1 c1 t1 B1 m1 d1 u0 v0∧PF w' s2 A2 n2 c2 t2 B2 m2 d2 p1 q1∧PF w' s3 A3 n3 c3 t3 B3 m3 d3 u1 v1∧Below w.heap.size w w'
set_option maxRecDepth 100000 in
set_option maxHeartbeats 12800000 in
theorem Meet_any (ax ay bx by' cx cy dx dy k p0 q0 u0 v0 p1 q1 u1 v1:Int) (w:World) (hv:((vdP (ax,ay)=0∧vdP (bx,by')=0)∧¬ (ax=bx∧ay=by'))∧((vdP (cx,cy)=0∧vdP (dx,dy)=0)∧¬ (cx=dx∧cy=dy))) (hx:cutV ax ay bx by' cx cy dx dy=(k,(p0,q0,u0,v0),(p1,q1,u1,v1))) :
  Calls Tryz.prog 13 #[.agg #[.int .i64 ax,.int .i64 ay,.int .i64 bx,.int .i64 by'],.agg #[.int .i64 cx,.int .i64 cy,.int .i64 dx,.int .i64 dy]] w (RetCt7E k p0 q0 u0 v0 p1 q1 u1 v1 w):=by
 have HV:=hJ hv
 have HX:=hJ hx
 clear hv hx
 obtain ⟨x1,aC⟩:=nmz (((w.alloc (.cells #[.int .i64 ax,.int .i64 ay,.int .i64 bx,.int .i64 by'] 25)).alloc (.cells #[.int .i64 cx,.int .i64 cy,.int .i64 dx,.int .i64 dy] 25)).alloc (.cells #[.int .i64 0,.bool false,.slice none 0 0,.bool false,.slice none 0 0,.bool false,.slice none 0 0,.bool false,.slice none 0 0,.bool false,.slice none 0 0,.bool false,.slice none 0 0,.bool false,.slice none 0 0,.bool false,.slice none 0 0] 39))
 have aO:=hJ (show Below w.heap.size w x1 by rw [←aC]; exact ((((Below.refl _ _).alloc (Nat.le_refl _) _).alloc (by simp only [World.size_alloc]; omega) _).alloc (by simp only [World.size_alloc]; omega) _))
 have aH:=hJ (show BX 25 x1 w.heap.size #[.int .i64 ax,.int .i64 ay,.int .i64 bx,.int .i64 by'] by rw [←aC]; exact (((BX.at rfl).alloc _).alloc _))
 have aI:=hJ (show BX 25 x1 (w.heap.size+1) #[.int .i64 cx,.int .i64 cy,.int .i64 dx,.int .i64 dy] by rw [←aC]; exact ((BX.at (by simp only [World.size_alloc])).alloc _))
 have aR:=hJ (show BX 39 x1 (w.heap.size+2) #[.int .i64 0,.bool false,.slice none 0 0,.bool false,.slice none 0 0,.bool false,.slice none 0 0,.bool false,.slice none 0 0,.bool false,.slice none 0 0,.bool false,.slice none 0 0,.bool false,.slice none 0 0,.bool false,.slice none 0 0] by rw [←aC]; exact (BX.at (by simp only [World.size_alloc])))
 have aS:=hJ (show w.heap.size≤w.heap.size+2 by omega)
 obtain ⟨aT,aU,aV,aW⟩:=aH.out.c4 0 1 2 3 rfl rfl rfl rfl
 obtain ⟨aX,aY,aZ,bA⟩:=aI.out.c4 0 1 2 3 rfl rfl rfl rfl
 obtain ⟨x10,aD⟩:=nmz (x1.alloc (.cells #[.int .i64 ax,.int .i64 ay,.int .i64 bx,.int .i64 by',.int .i64 cx,.int .i64 cy,.int .i64 dx,.int .i64 dy] 25))
 have aJ:=hJ (show Below x1.heap.size x1 x10 by rw [←aD]; exact ((Below.refl _ _).alloc (Nat.le_refl _) _))
 have bB:=hJ (show BX 25 x10 x1.heap.size #[.int .i64 ax,.int .i64 ay,.int .i64 bx,.int .i64 by',.int .i64 cx,.int .i64 cy,.int .i64 dx,.int .i64 dy] by rw [←aD]; exact (BX.at rfl))
 go_enter Tryz.func13,Tryz.ntmps13
 go_wp2_with fail
 clear aC aT aU aV aW aX aY aZ bA aD
 refine (ferr2_any ax ay bx by' cx cy dx dy x1.heap.size x10 bB.out HV.out.1 HV.out.2).mono ?_
 rintro e w11 ⟨rfl,hb⟩
 have aK:=hJ hb
 clear hb
 have aG:=hJ (bt aJ.out aK.out)
 have bC:=hJ (BX.new aH.out aG.out)
 obtain ⟨bD,bE,bF,bG⟩:=bC.out.c4 0 1 2 3 rfl rfl rfl rfl
 have bH:=hJ (BX.new aI.out aG.out)
 obtain ⟨bJ,bK,bL,bM⟩:=bH.out.c4 0 1 2 3 rfl rfl rfl rfl
 go_wp2_with fail
 clear bD bE bF bG bJ bK bL bM
 refine (meet_any ax ay bx by' cx cy dx dy (k,(p0,q0,u0,v0),(p1,q1,u1,v1)) w11 HV.out.1.1 HV.out.2.1 HX.out).mono ?_
 unfold RetCt7
 dsimp only
 rintro e w20 ⟨s11,A11,n11,c11,t11,B11,m11,d11,s12,A12,n12,c12,t12,B12,m12,d12,s13,A13,n13,c13,t13,B13,m13,d13,s14,A14,n14,c14,t14,B14,m14,d14,rfl,hr11,hr12,hr13,hr14,hb⟩
 have aL:=hJ hb
 have bN:=hJ hr11
 have bO:=hJ hr12
 have bP:=hJ hr13
 have bQ:=hJ hr14
 clear hb hr11 hr12 hr13 hr14
 have bR:=hJ (bt aG.out aL.out)
 have aB:=hJ (BX.new aR.out bR.out)
 obtain ⟨x21,aM⟩:=nmz (sto w20 (w.heap.size+2) 0 [.int .i64 k,.bool s11,.slice A11 n11 c11,.bool t11,.slice B11 m11 d11,.bool s12,.slice A12 n12 c12,.bool t12,.slice B12 m12 d12,.bool s13,.slice A13 n13 c13,.bool t13,.slice B13 m13 d13,.bool s14,.slice A14 n14 c14,.bool t14,.slice B14 m14 d14])
 have aA:=hJ aM
 have bS:=hJ (show BX 39 x21 (w.heap.size+2) #[.int .i64 k,.bool s11,.slice A11 n11 c11,.bool t11,.slice B11 m11 d11,.bool s12,.slice A12 n12 c12,.bool t12,.slice B12 m12 d12,.bool s13,.slice A13 n13 c13,.bool t13,.slice B13 m13 d13,.bool s14,.slice A14 n14 c14,.bool t14,.slice B14 m14 d14] by rw [←aA.out]; exact BX.put_all aB.out [.int .i64 k,.bool s11,.slice A11 n11 c11,.bool t11,.slice B11 m11 d11,.bool s12,.slice A12 n12 c12,.bool t12,.slice B12 m12 d12,.bool s13,.slice A13 n13 c13,.bool t13,.slice B13 m13 d13,.bool s14,.slice A14 n14 c14,.bool t14,.slice B14 m14 d14] (by simp))
 have bT:=hJ (show Below w.heap.size w x21 by rw [←aA.out]; exact below_sto (bt (bt (bt aO.out aJ.out) aK.out) aL.out) aS.out _ _)
 have bU:=hJ (show PF x21 s11 A11 n11 c11 t11 B11 m11 d11 p0 q0 by rw [←aA.out]; exact PF.sto bN.out aB.out rfl _ _)
 have bV:=hJ (show PF x21 s12 A12 n12 c12 t12 B12 m12 d12 u0 v0 by rw [←aA.out]; exact PF.sto bO.out aB.out rfl _ _)
 have bW:=hJ (show PF x21 s13 A13 n13 c13 t13 B13 m13 d13 p1 q1 by rw [←aA.out]; exact PF.sto bP.out aB.out rfl _ _)
 have bX:=hJ (show PF x21 s14 A14 n14 c14 t14 B14 m14 d14 u1 v1 by rw [←aA.out]; exact PF.sto bQ.out aB.out rfl _ _)
 go_wp2_with (refine wpList_st 39 (.tmp 4) (.tmp 17) rfl ?_; refine wpList_store_sto (w.heap.size+2) 0 [.int .i64 k,.bool s11,.slice A11 n11 c11,.bool t11,.slice B11 m11 d11,.bool s12,.slice A12 n12 c12,.bool t12,.slice B12 m12 d12,.bool s13,.slice A13 n13 c13,.bool t13,.slice B13 m13 d13,.bool s14,.slice A14 n14 c14,.bool t14,.slice B14 m14 d14] aB.out (by simp) aA.out rfl _ _ _ rfl rfl rfl (by kernel_rfl) rfl ?_)
 clear aM
 exact bodyPost_ret (results_cell1 rfl _ _ _ _ _ _ _ rfl bS.out Tryz.underlying39 rfl (by kernel_rfl)) rfl ⟨s11,A11,n11,c11,t11,B11,m11,d11,s12,A12,n12,c12,t12,B12,m12,d12,s13,A13,n13,c13,t13,B13,m13,d13,s14,A14,n14,c14,t14,B14,m14,d14,rfl,bU.out,bV.out,bW.out,bX.out,bT.out⟩
end Go.Proofs.YtdgicnhadecldaaGreat
