/- The reference's list of common points, and the program's cut. -/
import Derived.Test.YtdgicnhadecldaaGreatKB2
import Derived.Test.YtdgicnhadecldaaGreatKCA
import Derived.Test.YtdgicnhadecldaaGreatKCE
import Derived.Test.YtdgicnhadecldaaGreatKCM
import Derived.Test.YtdgicnhadecldaaGreatKCT
import Derived.Test.YtdgicnhadecldaaGreatKEV
import Derived.Test.YtdgicnhadecldaaGreatKYA
namespace Go.Proofs.YtdgicnhadecldaaGreat
open Go.RowKit
abbrev Tr:=Int × Int × Int
/-- A point put into an ordered list. -/
def put7:List Tr→Tr→List Tr
 | [],p=>[p]
 | q :: r,p=>if rcV q.1 q.2.1 q.2.2 p.1 p.2.1 p.2.2 < 0 then q :: put7 r p else if q=p then q :: r else p :: q :: r
def com7 (ax ay bx by' cx cy dx dy:Int) (l:List Tr) (p:Tr):List Tr:=if (roV ax ay bx by' p.1 p.2.1 p.2.2 && roV cx cy dx dy p.1 p.2.1 p.2.2)=true then put7 l p else l
/-- The ends that both have. -/
def re4 (ax ay bx by' cx cy dx dy:Int):List Tr:=com7 ax ay bx by' cx cy dx dy (com7 ax ay bx by' cx cy dx dy (com7 ax ay bx by' cx cy dx dy (com7 ax ay bx by' cx cy dx dy [] (ax,ay,1)) (bx,by',1)) (cx,cy,1)) (dx,dy,1)
/-- The cut that a list of common points stands for. -/
def rcu (l:List Tr):Int × Tr × Tr:=match l with
 | []=>(0,(0,0,0),(0,0,0))
 | [p]=>(1,p,(0,0,0))
 | p :: q :: r=>(2,p,(q :: r).getLast (by simp))
def BefT (a b:Tr):Prop:=a.1 < b.1∨(a.1=b.1∧a.2.1 < b.2.1)
theorem rc_one (a b c d:Int):(rcV a b 1 c d 1 < 0↔(a < c∨(a=c∧b < d))):=by
 unfold rcV cmpI
 simp only [Int.mul_one]
 rcases Int.lt_trichotomy a c with h | h | h
 ·rw [if_neg (by rw [if_pos h]; decide),if_pos h]; omega
 ·subst h
  rw [if_pos (by rw [if_neg (by omega),if_neg (by omega)])]
  rcases Int.lt_trichotomy b d with g | g | g
  ·rw [if_pos g]; omega
  ·rw [if_neg (by omega),if_neg (by omega)]; omega
  rw [if_neg (by omega),if_pos g]; omega
 ·rw [if_neg (by rw [if_neg (by omega),if_pos h]; decide),if_neg (by omega),if_pos h]; omega
/-- A strictly ordered list of points of the grid. -/
def Srt (l:List Tr):Prop:=l.Pairwise BefT∧∀ q ∈ l,q.2.2=1
theorem put_srt:∀ {l:List Tr} {p:Tr},Srt l→p.2.2=1→Srt (put7 l p)∧∀ q,q ∈ put7 l p↔q ∈ l∨q=p
 | [],p,_,hp=>⟨⟨List.pairwise_singleton _ _,fun q hq=>by rw [List.mem_singleton.1 hq]; exact hp⟩,fun q=>by simp [put7]⟩
 | q :: r,p,h,hp=>by
  obtain ⟨q1,q2,q3⟩:=q
  obtain ⟨p1,p2,p3⟩:=p
  have e1:q3=1:=h.2 _ (List.mem_cons_self ..)
  have e2:p3=1:=hp
  subst e1; subst e2
  have hr:Srt r:=⟨(List.pairwise_cons.1 h.1).2,fun z hz=>h.2 z (List.mem_cons_of_mem _ hz)⟩
  have hq:=(List.pairwise_cons.1 h.1).1
  unfold put7
  by_cases c:rcV q1 q2 1 p1 p2 1 < 0
  ·rw [if_pos c]
   obtain ⟨i1,i2⟩:=put_srt (p:=(p1,p2,1)) hr rfl
   rw [rc_one] at c
   refine ⟨⟨List.pairwise_cons.2 ⟨fun z hz=>?_,i1.1⟩,fun z hz=>?_⟩,fun z=>?_⟩
   ·rcases (i2 z).1 hz with g | rfl
    ·exact hq z g
    exact c
   ·rcases List.mem_cons.1 hz with rfl | g
    ·rfl
    exact i1.2 z g
   rw [List.mem_cons,i2,List.mem_cons,or_assoc]
  ·rw [if_neg c]
   rw [rc_one] at c
   by_cases d:((q1,q2,1):Tr)=(p1,p2,1)
   ·rw [if_pos d]
    exact ⟨h,fun z=>⟨fun g=>.inl g,fun g=>g.elim id (fun g=>by rw [g,←d]; exact List.mem_cons_self ..)⟩⟩
   ·rw [if_neg d]
    have d2:¬ (q1=p1∧q2=p2):=fun e=>d (by rw [e.1,e.2])
    have b:BefT (p1,p2,1) (q1,q2,1):=by unfold BefT; simp only; omega
    refine ⟨⟨List.pairwise_cons.2 ⟨fun z hz=>?_,h.1⟩,fun z hz=>?_⟩,fun z=>?_⟩
    ·rcases List.mem_cons.1 hz with rfl | g
     ·exact b
     have:=hq z g; unfold BefT at *; simp only at *; omega
    ·rcases List.mem_cons.1 hz with rfl | g
     ·rfl
     exact h.2 z g
    ·rw [List.mem_cons,or_comm]
theorem com_srt {ax ay bx by' cx cy dx dy:Int} {l:List Tr} {p:Tr} (h:Srt l) (hp:p.2.2=1):Srt (com7 ax ay bx by' cx cy dx dy l p)∧∀ q,q ∈ com7 ax ay bx by' cx cy dx dy l p↔q ∈ l∨((roV ax ay bx by' p.1 p.2.1 p.2.2 && roV cx cy dx dy p.1 p.2.1 p.2.2)=true∧q=p):=by
 unfold com7
 by_cases c:(roV ax ay bx by' p.1 p.2.1 p.2.2 && roV cx cy dx dy p.1 p.2.1 p.2.2)=true
 ·rw [if_pos c]
  obtain ⟨i1,i2⟩:=put_srt h hp
  exact ⟨i1,fun q=>by rw [i2]; simp [c]⟩
 ·rw [if_neg c]
  exact ⟨h,fun q=>by simp [c]⟩
theorem re_srt (ax ay bx by' cx cy dx dy:Int):Srt (re4 ax ay bx by' cx cy dx dy)∧∀ q,q ∈ re4 ax ay bx by' cx cy dx dy↔(((False∨((roV ax ay bx by' ax ay 1 && roV cx cy dx dy ax ay 1)=true∧q=(ax,ay,1)))∨((roV ax ay bx by' bx by' 1 && roV cx cy dx dy bx by' 1)=true∧q=(bx,by',1)))∨((roV ax ay bx by' cx cy 1 && roV cx cy dx dy cx cy 1)=true∧q=(cx,cy,1)))∨((roV ax ay bx by' dx dy 1 && roV cx cy dx dy dx dy 1)=true∧q=(dx,dy,1)):=by
 have s0:Srt []:=⟨List.Pairwise.nil,fun q hq=>by cases hq⟩
 obtain ⟨s1,m1⟩ := @com_srt ax ay bx by' cx cy dx dy _ (ax,ay,1) s0 rfl
 obtain ⟨s2,m2⟩ := @com_srt ax ay bx by' cx cy dx dy _ (bx,by',1) s1 rfl
 obtain ⟨s3,m3⟩ := @com_srt ax ay bx by' cx cy dx dy _ (cx,cy,1) s2 rfl
 obtain ⟨s4,m4⟩ := @com_srt ax ay bx by' cx cy dx dy _ (dx,dy,1) s3 rfl
 refine ⟨s4,fun q=>?_⟩
 unfold re4
 rw [m4,m3,m2,m1]
 simp only [List.not_mem_nil]
/-- On at a point of the grid. -/
theorem ro_ho {ax ay bx by' px py:Int} (hs:¬ (ax=bx∧ay=by')):roV ax ay bx by' px py 1=hoV ax ay bx by' px py:=by
 rw [←on_math (by decide) hs,Bool.eq_iff_iff,ho_is]
 unfold onV
 rw [in_box (by decide),Bool.and_eq_true,decide_eq_true_iff,decide_eq_true_iff]
 have e:arN ax ay 1 bx by' 1 px py 1=nV ax ay bx by' px py:=by unfold arN nV; simp only [Int.mul_one]
 have c:cmpI (arN ax ay 1 bx by' 1 px py 1) 0=0↔nV ax ay bx by' px py=0:=by rw [e]; unfold cmpI; split <;> (try split) <;> omega
 rw [c]
 unfold InB
 constructor
 ·rintro ⟨h,g⟩; exact ⟨g,by omega⟩
 ·rintro ⟨g,h⟩; exact ⟨by omega,g⟩
theorem ho_self {ax ay bx by':Int}:hoV ax ay bx by' ax ay=true∧hoV ax ay bx by' bx by'=true:=by
 rw [ho_is,ho_is]
 refine ⟨⟨by unfold nV; grind,?_⟩,by unfold nV; grind,?_⟩ <;> unfold InB <;> omega
def toT (q:Pt4):Tr:=(q.1,q.2.2.1,1)
theorem re_mem {ax ay bx by' cx cy dx dy:Int} (hs:¬ (ax=bx∧ay=by')) (ht:¬ (cx=dx∧cy=dy)) (q:Tr):q ∈ re4 ax ay bx by' cx cy dx dy↔∃ z ∈ edL ax ay bx by' cx cy dx dy,q=toT z:=by
 rw [(re_srt ax ay bx by' cx cy dx dy).2]
 simp only [ro_ho hs,ro_ho ht,ho_self.1,ho_self.2,Bool.true_and,Bool.and_true,false_or]
 constructor
 ·rintro (((⟨h,rfl⟩ | ⟨h,rfl⟩) | ⟨h,rfl⟩) | ⟨h,rfl⟩)
  ·exact ⟨(ax,1,ay,1),mem_ed.2 (.inl (.inl ⟨h,rfl⟩)),rfl⟩
  ·exact ⟨(bx,1,by',1),mem_ed.2 (.inl (.inr ⟨h,rfl⟩)),rfl⟩
  ·exact ⟨(cx,1,cy,1),mem_ed.2 (.inr (.inl ⟨h,rfl⟩)),rfl⟩
  exact ⟨(dx,1,dy,1),mem_ed.2 (.inr (.inr ⟨h,rfl⟩)),rfl⟩
 ·rintro ⟨z,hz,rfl⟩
  rcases mem_ed.1 hz with (⟨h,rfl⟩ | ⟨h,rfl⟩) | (⟨h,rfl⟩ | ⟨h,rfl⟩)
  ·exact .inl (.inl (.inl ⟨h,rfl⟩))
  ·exact .inl (.inl (.inr ⟨h,rfl⟩))
  ·exact .inl (.inr ⟨h,rfl⟩)
  ·exact .inr ⟨h,rfl⟩
end Go.Proofs.YtdgicnhadecldaaGreat
