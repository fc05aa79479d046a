/- The reference's lists of common ends have at most two points. -/
import Derived.Test.YtdgicnhadecldaaGreatKCY
import Derived.Test.YtdgicnhadecldaaGreatKCZ
import Derived.Test.YtdgicnhadecldaaGreatKYA
namespace Go.Proofs.YtdgicnhadecldaaGreat
open Go.RowKit
set_option linter.unusedVariables false
set_option linter.unusedSimpArgs false
theorem on_lex {ax ay bx by' px py:Int} (hs:¬ (ax=bx∧ay=by')) (h:roV ax ay bx by' px py 1=true):¬ (BefT (px,py,1) (ax,ay,1)∧BefT (px,py,1) (bx,by',1))∧¬ (BefT (ax,ay,1) (px,py,1)∧BefT (bx,by',1) (px,py,1)):=by
 rw [ro_is (by decide) hs] at h
 simp only [Int.mul_one] at h
 obtain ⟨h1,⟨h2,h3⟩,h4,h5⟩:=h
 unfold BefT
 simp only
 have k1:px=ax→ax≠bx→py=ay:=fun e ne=>by
  rw [e,Int.sub_self,Int.mul_zero] at h1
  rcases Int.mul_eq_zero.1 h1 with g | g <;> omega
 have k2:px=bx→ax≠bx→py=by':=fun e ne=>by
  have h6:(bx - ax)*(py - by')=0:=by rw [e] at h1; grind
  rcases Int.mul_eq_zero.1 h6 with g | g <;> omega
 constructor
 ·rintro ⟨a,b⟩
  by_cases e:ax=bx
  ·omega
  rcases a with a | ⟨a,a'⟩
  ·rcases b with b | ⟨b,b'⟩
   ·omega
   have:=k2 b e; omega
  have:=k1 a e; omega
 ·rintro ⟨a,b⟩
  by_cases e:ax=bx
  ·omega
  ·rcases a with a | ⟨a,a'⟩
   ·rcases b with b | ⟨b,b'⟩
    ·omega
    have:=k2 b.symm e; omega
   ·have:=k1 a.symm e; omega
/-- Ordered common ends. -/
def Gd (ax ay bx by' cx cy dx dy:Int) (L:List Tr):Prop:=Srt L∧∀ q ∈ L,(roV ax ay bx by' q.1 q.2.1 q.2.2=true∧roV cx cy dx dy q.1 q.2.1 q.2.2=true)∧((q=(ax,ay,1)∨q=(bx,by',1))∨(q=(cx,cy,1)∨q=(dx,dy,1)))
theorem Gd.com {ax ay bx by' cx cy dx dy:Int} {L:List Tr} {p:Tr} (h:Gd ax ay bx by' cx cy dx dy L) (hp:((p=(ax,ay,1)∨p=(bx,by',1))∨(p=(cx,cy,1)∨p=(dx,dy,1)))):Gd ax ay bx by' cx cy dx dy (com7 ax ay bx by' cx cy dx dy L p):=by
 have h1:p.2.2=1:=by rcases hp with (rfl | rfl) | (rfl | rfl) <;> rfl
 obtain ⟨s,m⟩ := @com_srt ax ay bx by' cx cy dx dy _ p h.1 h1
 refine ⟨s,fun q hq=>?_⟩
 rcases (m q).1 hq with g | ⟨g,rfl⟩
 ·exact h.2 q g
 ·exact ⟨(Bool.and_eq_true _ _).mp g,hp⟩
theorem mid_no {a b p q r:Tr} (ha:a.2.2=1) (hp:q=a∨q=b) (h1:BefT p q) (h2:BefT q r) (k1:¬ (BefT p a∧BefT p b)) (k2:¬ (BefT a r∧BefT b r)):False:=by
 unfold BefT at *
 rcases hp with rfl | rfl <;> omega
theorem Gd.len {ax ay bx by' cx cy dx dy:Int} {L:List Tr} (hs:¬ (ax=bx∧ay=by')) (ht:¬ (cx=dx∧cy=dy)) (h:Gd ax ay bx by' cx cy dx dy L):L.length≤2:=by
 match L,h with
 | [],_=>exact Nat.zero_le _
 | [_],_=>exact Nat.le_succ _
 | [_,_],_=>exact Nat.le_refl _
 | p :: q :: r :: l,h =>
  exfalso
  obtain ⟨⟨hp,h1⟩,h2⟩:=h
  have pq:=(List.pairwise_cons.1 hp).1 q (List.mem_cons_self ..)
  have qr:=(List.pairwise_cons.1 (List.pairwise_cons.1 hp).2).1 r (List.mem_cons_self ..)
  have mp:=h2 p (List.mem_cons_self ..)
  have mq:=h2 q (List.mem_cons_of_mem _ (List.mem_cons_self ..))
  have mr:=h2 r (List.mem_cons_of_mem _ (List.mem_cons_of_mem _ (List.mem_cons_self ..)))
  have p1:=h1 p (List.mem_cons_self ..)
  have r1:=h1 r (List.mem_cons_of_mem _ (List.mem_cons_of_mem _ (List.mem_cons_self ..)))
  obtain ⟨px,py,pz⟩:=p
  obtain ⟨rx,ry,rz⟩:=r
  simp only at p1 r1
  subst p1; subst r1
  rcases mq.2 with e | e
  ·exact mid_no (a:=(ax,ay,1)) (b:=(bx,by',1)) rfl e pq qr (on_lex hs mp.1.1).1 (on_lex hs mr.1.1).2
  ·exact mid_no (a:=(cx,cy,1)) (b:=(dx,dy,1)) rfl e pq qr (on_lex ht mp.1.2).1 (on_lex ht mr.1.2).2
theorem Gd.nil (ax ay bx by' cx cy dx dy:Int):Gd ax ay bx by' cx cy dx dy []:=⟨⟨List.Pairwise.nil,fun q hq=>by cases hq⟩,fun q hq=>by cases hq⟩
end Go.Proofs.YtdgicnhadecldaaGreat
