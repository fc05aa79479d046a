/- A drawn region in which some operations may come up in any order: each is walked once, not once for each state. No walk. -/
import Derived.Deep.RegionHeld
import Derived.Below
namespace Go.Proofs.YtdgicnhadecldaaGreat
open Go.RowKit
/-- The state behind those of the operations that are listed: their values in their temporaries. -/
def pa (a0:Act) (dst:Nat→Nat):List Nat→Array Bool→(Nat→Value)→Act
 | [],_,_=>a0
 | i :: r,l,v=>if l.getD i false=true then (pa a0 dst r l v).put (some (dst i)) (v i) else pa a0 dst r l v
def upV (v:Nat→Value) (i:Nat) (x:Value) (j:Nat):Value:=if j=i then x else v j
theorem getD_set_same {l:Array Bool} {i:Nat} (h:i < l.size) (b:Bool):(l.setIfInBounds i true).getD i b=true:=by
 simp [Array.getD,h]
theorem getD_set_other {l:Array Bool} {i j:Nat} (h:j≠i) (b:Bool):(l.setIfInBounds i true).getD j b=l.getD j b:=by
 unfold Array.getD
 simp only [Array.size_setIfInBounds]
 split
 ·rename_i hj
  simp only [Array.getInternal_eq_getElem]
  rw [Array.getElem_setIfInBounds hj,if_neg (Ne.symm h)]
 ·rfl
theorem pa_congr {a0:Act} {dst:Nat→Nat} {fl:List Nat} {l l':Array Bool} {v v':Nat→Value} (h:∀ i ∈ fl,l.getD i false=l'.getD i false∧v i=v' i):pa a0 dst fl l v=pa a0 dst fl l' v':=by
 induction fl with
 | nil=>rfl
 | cons i r ih =>
  have h1:=h i (by simp)
  have h2:=ih (fun j hj=>h j (List.mem_cons_of_mem _ hj))
  unfold pa
  rw [h1.1,h1.2,h2]
theorem pa_put {a0:Act} {dst:Nat→Nat} {fl:List Nat} {l:Array Bool} {v:Nat→Value} {i:Nat} {x:Value} (hnd:fl.Nodup) (hi:i ∈ fl) (hinj:∀ a ∈ fl,∀ b ∈ fl,dst a=dst b→a=b) (hl:i < l.size) (hf:l.getD i false=false):(pa a0 dst fl l v).put (some (dst i)) x=pa a0 dst fl (l.setIfInBounds i true) (upV v i x):=by
 induction fl with
 | nil=>cases hi
 | cons j r ih =>
  obtain ⟨hj,hr⟩:=List.nodup_cons.1 hnd
  by_cases e:j=i
  ·subst e
   have hc:pa a0 dst r l v=pa a0 dst r (l.setIfInBounds j true) (upV v j x):=pa_congr fun k hk=>by
    have hkj:k≠j:=fun e=>hj (e ▸ hk)
    exact ⟨(getD_set_other hkj false).symm,(if_neg hkj).symm⟩
   unfold pa
   rw [hf,getD_set_same hl,if_neg (by decide),if_pos rfl,←hc]
   unfold upV
   rw [if_pos rfl]
  ·have hir:i ∈ r:=by
    rcases List.mem_cons.1 hi with h | h
    ·exact absurd h.symm e
    exact h
   have h2:=ih hr hir (fun a ha b hb=>hinj a (List.mem_cons_of_mem _ ha) b (List.mem_cons_of_mem _ hb))
   have hne:∀ d,(some (dst j):Option Nat)=some d→(some (dst i):Option Nat)≠some d:=fun d h1 h3=>by
    injection h1 with h1; injection h3 with h3
    exact e (hinj j (by simp) i hi (h1.trans h3.symm))
   unfold pa
   rw [getD_set_other e,show upV v i x j=v j from if_neg e,←h2]
   split
   ·exact Act.put_comm _ _ _ hne
   ·rfl
theorem pa_defers {a0:Act} {dst:Nat→Nat} {fl:List Nat} {l:Array Bool} {v:Nat→Value}:(pa a0 dst fl l v).defers=a0.defers:=by
 induction fl with
 | nil=>rfl
 | cons i r ih =>
  unfold pa
  split
  ·exact ih
  ·exact ih
section
variable {P:Program} {ops:Array Oper} {Q:Exit→Act→World→Prop} {md:Region.Mode} {S:World→Prop}
theorem pa_exec {a0:Act} {dst:Nat→Nat} {fl:List Nat} {l:Array Bool} {v:Nat→Value} {o:Oper} (hs:∀ cs b,o.op≠.select cs b) (h:∀ j ∈ fl,l.getD j false=true→dst j ∉ o.looksAt ops):execOp (pa a0 dst fl l v).eval o=execOp a0.eval o∧Region.wanted o (yielded ops (pa a0 dst fl l v).tmps)=Region.wanted o (yielded ops a0.tmps):=by
 induction fl with
 | nil=>exact ⟨rfl,rfl⟩
 | cons i r ih =>
  have h2:=ih (fun j hj=>h j (List.mem_cons_of_mem _ hj))
  unfold pa
  split
  ·rename_i hl
   have hd:∀ d,(some (dst i):Option Tmp)=some d→d ∉ o.looksAt ops:=fun d e=>by injection e with e; rw [←e]; exact h i (by simp) hl
   exact ⟨(execOp_put o hs _ _ _ hd).trans h2.1,(wanted_put o _ _ _ hd).trans h2.2⟩
  ·exact h2
/-- One operation, walked at the frame of the beginning, serves at every later one. -/
theorem wpOp_pa {a0 a:Act} {i d:Nat} {o:Oper} {w:World} {R:Value→World→Prop} (hda:a.defers=a0.defers) (ho:ops[i]?=some o) (hd:o.dst=some d) (hsz:d < a0.tmps.size)
  (he:execOp a.eval o=execOp a0.eval o) (hw:Region.wanted o (yielded ops a.tmps)=Region.wanted o (yielded ops a0.tmps)) (hQ:∀ c a a' w,a'.defers=a.defers→Q (.panic c) a w→Q (.panic c) a' w)
  (h:∀ K:Act→World→Prop,(∀ x w',R x w'→K (a0.put (some d) x) w')→wpOp P ops Q i K a0 w)
  {K:Act→World→Prop} (hK:∀ x w',R x w'→K (a.put (some d) x) w'):wpOp P ops Q i K a w:=by
 have h1:=h (fun a' w'=>a'.defers=a0.defers∧∃ x,a'.tmps[d]?=some x∧R x w') (fun x w' hr=>⟨rfl,x,by simp [Act.put,hsz],hr⟩)
 have hget:∀ u:Value,∀ x,(a0.put (some d) u).tmps[d]?=some x→u=x:=fun u x e=>by
  have e2:(a0.put (some d) u).tmps[d]?=some u:=by simp [Act.put,hsz]
  rw [e2] at e; injection e
 unfold wpOp at *
 simp only [ho] at *
 rw [hw]
 split at h1
 ·rename_i hwt
  rw [if_pos hwt]
  rcases h1 with h1 | ⟨h2,h3⟩
  ·refine .inl ?_
   unfold Oper.wp at *
   rw [he]
   generalize hg:(execOp a0.eval o).run P w=r at *
   cases r with
   | ok n w' =>
    cases n <;> simp only [Oper.upon,hd] at h1 ⊢
    case value u=>obtain ⟨_,x,e,hr⟩:=h1; rw [hget _ _ e]; exact hK _ _ hr
    case skip=>obtain ⟨_,x,e,hr⟩:=h1; rw [hget _ _ e]; exact hK _ _ hr
    case defer n =>
     have e:=h1.1
     have e2:(n :: a0.defers:List Deferred)=a0.defers:=e
     exact absurd (congrArg List.length e2) (by simp)
    case enter f args =>
     refine Calls.mono h1 fun e w'' he'=>?_
     cases e with
     | returned u=>obtain ⟨_,x,e,hr⟩:=he'; show K (a.put (some d) u) w''; rw [hget _ _ e]; exact hK _ _ hr
     | panicked c=>exact hQ _ _ _ _ hda he'
     | outgrown=>exact he'
    case row row args=>exact Rows.mono h1 fun u w'' he'=>by obtain ⟨_,x,e,hr⟩:=he'; rw [hget _ _ e]; exact hK _ _ hr
   | halt x w' =>
    cases x <;> simp only [Oper.upon] at h1 ⊢
    case panic u=>exact hQ _ _ _ _ hda h1
  refine .inr ⟨?_,h3⟩
  unfold Oper.asks at *
  rw [he]
  exact h2
 ·rename_i hwt
  rw [if_neg hwt]
  obtain ⟨_,x,e,hr⟩:=h1
  rw [hd] at e ⊢
  rw [hget _ _ e]
  exact hK _ _ hr
/-- What is listed has what it waits for listed. -/
def DC (md:Region.Mode) (ops:Array Oper) (l:Array Bool):Prop:=∀ i o,l.getD i false=true→ops[i]?=some o→∀ e ∈ o.after,Region.binds md e=true→l.getD e.on false=true
def reachB (md:Region.Mode) (ops:Array Oper):Nat→Nat→Nat→Bool
 | 0,_,_=>false
 | k+1,i,j=>match ops[i]? with
  | none=>false
  | some o=>o.after.any fun e=>Region.binds md e && (e.on == j || reachB md ops k e.on j)
theorem reach_listed {l:Array Bool} (hdc:DC md ops l):∀ (k i j:Nat),(∀ o,ops[i]?=some o→∀ e ∈ o.after,Region.binds md e=true→l.getD e.on false=true)→reachB md ops k i j=true→l.getD j false=true
 | 0,_,_,_,h=>by cases h
 | k+1,i,j,hi,h=>by
  unfold reachB at h
  cases ho:ops[i]? with
  | none=>rw [ho] at h; cases h
  | some o =>
   rw [ho] at h
   simp only [Array.any_eq_true] at h
   obtain ⟨x,hx,h⟩:=h
   rw [Bool.and_eq_true,Bool.or_eq_true] at h
   have hl:=hi o ho _ (Array.getElem_mem hx) h.1
   rcases h.2 with e | e
   ·rw [beq_iff_eq] at e; rw [←e]; exact hl
   ·exact reach_listed hdc k _ j (fun o' ho' e' he' hb=>hdc _ o' hl ho' e' he' hb) e
/-- The side conditions of wpAnyH_float, for kernel_rfl. -/
def flOk (md:Region.Mode) (ops:Array Oper) (fl:List Nat) (dst:Nat→Nat) (l0:Array Bool) (n:Nat):Bool :=
 (fl.all fun i=>decide (i < l0.size) && !l0.getD i true && decide (dst i < n) && (match ops[i]? with
  | none=>false
  | some o=>decide (o.dst=some (dst i)) && (match o.op with | .select _ _=>false | _=>true) && (fl.all fun j=>decide (j=i) || (!(o.looksAt ops).contains (dst j) && decide (dst j≠dst i)))
   && (o.after.all fun e => !Region.binds md e || l0.getD e.on false || (fl.contains e.on && decide (e.on < i))))) &&
 ((List.range ops.size).all fun i=>fl.contains i || l0.getD i true || (fl.all fun j=>reachB md ops ops.size i j)) &&
 ((List.range l0.size).all fun i => !l0.getD i false || (match ops[i]? with
  | none=>true
  | some o=>o.after.all fun e => !Region.binds md e || l0.getD e.on false))
def setA (l0:Array Bool):List Nat→Array Bool
 | []=>l0
 | i :: r=>(setA l0 r).setIfInBounds i true
theorem setA_size (l0:Array Bool) (fl:List Nat):(setA l0 fl).size=l0.size:=by
 induction fl with
 | nil=>rfl
 | cons i r ih=>simp [setA,ih]
theorem setA_get (l0:Array Bool) (fl:List Nat) (hs:∀ i ∈ fl,i < l0.size) (j:Nat):(setA l0 fl).getD j false=if j ∈ fl then true else l0.getD j false:=by
 induction fl with
 | nil=>rfl
 | cons i r ih =>
  have h2:=ih (fun k hk=>hs k (List.mem_cons_of_mem _ hk))
  unfold setA
  by_cases e:j=i
  ·subst e
   rw [getD_set_same (by rw [setA_size]; exact hs j (by simp)),if_pos (by simp)]
  ·rw [getD_set_other e,h2]
   simp [e]
theorem ext_getD {l l':Array Bool} (hs:l.size=l'.size) (h:∀ j,l.getD j false=l'.getD j false):l=l':=by
 refine Array.ext hs fun i h1 h2=>?_
 have:=h i
 simp [Array.getD,h1,h2] at this
 exact this
theorem filter_set {fl:List Nat} {l:Array Bool} {i:Nat} (hnd:fl.Nodup) (hi:i ∈ fl) (hl:i < l.size) (hf:l.getD i false=false):(fl.filter fun j => !(l.setIfInBounds i true).getD j false).length+1=(fl.filter fun j => !l.getD j false).length:=by
 induction fl with
 | nil=>cases hi
 | cons j r ih =>
  obtain ⟨hj,hr⟩:=List.nodup_cons.1 hnd
  by_cases e:j=i
  ·subst e
   have hc:(r.filter fun k => !(l.setIfInBounds j true).getD k false)=r.filter fun k => !l.getD k false:=List.filter_congr fun k hk=>by
    have hkj:k≠j:=fun e=>by rw [e] at hk; exact hj hk
    rw [getD_set_other hkj]
   rw [List.filter_cons_of_neg (by rw [getD_set_same hl]; decide),List.filter_cons_of_pos (by rw [hf]; rfl),hc]
   rfl
  ·have hir:i ∈ r:=by
    rcases List.mem_cons.1 hi with h | h
    ·exact absurd h.symm e
    exact h
   have h2:=ih hr hir
   by_cases hv:l.getD j false=true
   ·rw [List.filter_cons_of_neg (by rw [getD_set_other e,hv]; decide),List.filter_cons_of_neg (by rw [hv]; decide)]
    exact h2
   ·have hv':l.getD j false=false:=by simpa using hv
    rw [List.filter_cons_of_pos (by rw [getD_set_other e,hv']; rfl),List.filter_cons_of_pos (by rw [hv']; rfl),List.length_cons,List.length_cons]
    omega
def OldP (x:Value) (w:World):Prop:=∃ g,x=.pointer (some ⟨g,0,none⟩)∧g < w.heap.size
def NewP (x:Value) (w:World):Prop:=∃ g,x=.pointer (some ⟨g,0,none⟩)∧w.heap.size≤g
theorem newP_ne {x y:Value} {w:World} (h:NewP x w) (g:OldP y w):x≠y:=by
 obtain ⟨a,rfl,ha⟩:=h
 obtain ⟨b,rfl,hb⟩:=g
 intro e
 injection e with e
 injection e with e
 injection e with e
 omega
theorem wpAnyH_float {base:World} {a0:Act} {fl:List Nat} {dst:Nat→Nat} {al:Nat→Bool} {l0:Array Bool} {Fact:Nat→Value→World→Prop}
  (hok:flOk md ops fl dst l0 a0.tmps.size=true) (hnd:fl.Nodup) (hQ:∀ c a a' w,a'.defers=a.defers→Q (.panic c) a w→Q (.panic c) a' w)
  (hst:∀ i x w w',Fact i x w→Below w.heap.size w w'→Fact i x w') (hold:∀ i x w,al i=true→Fact i x w→OldP x w)
  (hop:∀ i ∈ fl,∀ w,Below base.heap.size base w→∀ K:Act→World→Prop,(∀ x w',Fact i x w'→(al i=true→NewP x w)→Below w.heap.size w w'→S w'→K (a0.put (some (dst i)) x) w')→wpOp P ops Q i K a0 w)
  (n:Nat) (hend:∀ v w,Below base.heap.size base w→(∀ i ∈ fl,Fact i (v i) w)→(∀ i ∈ fl,∀ j ∈ fl,i≠j→al i=true→al j=true→v i≠v j)→wpAnyH P md ops Q S n (setA l0 fl) (pa a0 dst fl (setA l0 fl) v) w)
  {w0:World} (hb0:Below base.heap.size base w0):wpAnyH P md ops Q S (n+fl.length) l0 a0 w0:=by
 unfold flOk at hok
 simp only [Bool.and_eq_true,List.all_eq_true,List.mem_range] at hok
 obtain ⟨⟨hfl,hout⟩,hl0⟩:=hok
 have hsz:∀ i ∈ fl,i < l0.size:=fun i hi=>by have:=(hfl i hi).1.1.1; simpa using this
 have hun:∀ i ∈ fl,l0.getD i true=false:=fun i hi=>by have:=(hfl i hi).1.1.2; simpa using this
 have hdn:∀ i ∈ fl,dst i < a0.tmps.size:=fun i hi=>by have:=(hfl i hi).1.2; simpa using this
 have hspec:∀ i ∈ fl,∃ o,ops[i]?=some o∧o.dst=some (dst i)∧(∀ cs b,o.op≠.select cs b)∧(∀ j ∈ fl,j≠i→dst j ∉ o.looksAt ops∧dst j≠dst i)∧∀ e ∈ o.after,Region.binds md e=true→l0.getD e.on false=true∨(e.on ∈ fl∧e.on < i):=by
  intro i hi
  have h:=(hfl i hi).2
  cases ho:ops[i]? with
  | none=>rw [ho] at h; cases h
  | some o =>
   rw [ho] at h
   simp only [Bool.and_eq_true,List.all_eq_true,Array.all_eq_true,decide_eq_true_eq] at h
   obtain ⟨⟨⟨h1,h2⟩,h3⟩,h4⟩:=h
   refine ⟨o,rfl,h1,(fun cs b e=>by rw [e] at h2; cases h2),fun j hj hji=>?_,fun e he hb=>?_⟩
   ·have:=h3 j hj
    simp only [Bool.or_eq_true,decide_eq_true_eq,Bool.and_eq_true,Bool.not_eq_true',hji,false_or] at this
    exact ⟨(fun hm=>by have h5:=this.1; rw [List.contains_iff_mem.2 hm] at h5; cases h5),this.2⟩
   obtain ⟨x,hx,rfl⟩:=Array.mem_iff_getElem.1 he
   have:=h4 x hx
   simp only [Bool.or_eq_true,Bool.not_eq_true',hb,Bool.and_eq_true,decide_eq_true_eq,List.contains_iff_mem] at this
   rcases this with (h | h) | h
   ·cases h
   ·exact .inl h
   exact .inr h
 have hinj:∀ a ∈ fl,∀ b ∈ fl,dst a=dst b→a=b:=fun a ha b hb e=>by
  obtain ⟨_,_,_,_,h,_⟩:=hspec b hb
  by_cases hab:a=b
  ·exact hab
  exact absurd e (h a ha hab).2
 have hdc0:DC md ops l0:=fun i o hi ho e he hb=>by
  have hlt:i < l0.size:=by
   unfold Array.getD at hi
   split at hi
   ·assumption
   cases hi
  have h:=hl0 i hlt
  rw [hi,ho] at h
  simp only [Bool.or_eq_true,Bool.not_true,Bool.false_eq_true,false_or,Array.all_eq_true] at h
  obtain ⟨x,hx,rfl⟩:=Array.mem_iff_getElem.1 he
  have:=h x hx
  rw [hb] at this
  simpa using this
 have key:∀ (k:Nat) (l:Array Bool) (w:World) (v:Nat→Value),l.size=l0.size→(∀ j,j ∉ fl→l.getD j false=l0.getD j false∧l.getD j true=l0.getD j true)→DC md ops l→(fl.filter fun i => !l.getD i false).length=k→Below base.heap.size base w →
   (∀ i ∈ fl,l.getD i false=true→Fact i (v i) w)→(∀ i ∈ fl,∀ j ∈ fl,i≠j→l.getD i false=true→l.getD j false=true→al i=true→al j=true→v i≠v j)→wpAnyH P md ops Q S (n+k) l (pa a0 dst fl l v) w:=by
  intro k
  induction k with
  | zero =>
   intro l w v hs ho hdc hk hb hf hp
   have hall:∀ i ∈ fl,l.getD i false=true:=fun i hi=>by
    by_cases h:l.getD i false=true
    ·exact h
    have hm:i ∈ fl.filter fun i => !l.getD i false:=List.mem_filter.2 ⟨hi,by simp [h]⟩
    rw [List.eq_nil_of_length_eq_zero hk] at hm
    cases hm
   have hl:l=setA l0 fl:=ext_getD (by rw [setA_size,hs]) fun j=>by
    rw [setA_get l0 fl hsz]
    by_cases hj:j ∈ fl
    ·rw [if_pos hj,hall j hj]
    rw [if_neg hj,(ho j hj).1]
   subst hl
   exact hend v w hb (fun i hi=>hf i hi (hall i hi)) (fun i hi j hj hij=>hp i hi j hj hij (hall i hi) (hall j hj))
  | succ k ih =>
   intro l w v hs ho hdc hk hb hf hp
   have hsome:∃ i ∈ fl,l.getD i false=false:=by
    rcases hm:fl.filter fun i => !l.getD i false with _ | ⟨i,r⟩
    ·rw [hm] at hk; cases hk
    have hi:i ∈ fl.filter fun i => !l.getD i false:=by rw [hm]; simp
    obtain ⟨h1,h2⟩:=List.mem_filter.1 hi
    exact ⟨i,h1,by simpa using h2⟩
   have hft:∀ i ∈ fl,l.getD i false=false→l.getD i true=false:=fun i hi h=>by
    have hlt:i < l.size:=by rw [hs]; exact hsz i hi
    simp [Array.getD,hlt] at h ⊢
    exact h
   refine ⟨fun hr=>?_,fun i hi=>?_⟩
   ·exfalso
    obtain ⟨i0,hi0,hu0⟩:=hsome
    have hex:∀ i,i ∈ fl→l.getD i false=false→False:=by
     intro i
     induction i using Nat.strongRecOn with
     | ind i ihh =>
      intro hi hu
      obtain ⟨o,ho1,_,_,_,hdep⟩:=hspec i hi
      have hm:i ∈ Region.ready md ops l:=mem_ready.2 ⟨hft i hi hu,o,ho1,fun e he hbd=>by
       by_cases hle:l.getD e.on false=true
       ·exact hle
       exfalso
       have hle':l.getD e.on false=false:=by simpa using hle
       rcases hdep e he hbd with h | ⟨h1,h2⟩
       ·by_cases hfe:e.on ∈ fl
        ·have:=hun _ hfe
         have hlt:=hsz _ hfe
         simp [Array.getD,hlt] at this h
         rw [this] at h; cases h
        rw [←(ho _ hfe).1] at h; exact hle h
       exact ihh _ h2 h1 hle'⟩
      rw [hr] at hm
      cases hm
    exact hex i0 hi0 hu0
   obtain ⟨hiu,o,ho1,hdeps⟩:=mem_ready.1 hi
   have hif:i ∈ fl:=by
    by_cases h:i ∈ fl
    ·exact h
    exfalso
    obtain ⟨j,hj,hju⟩:=hsome
    have hlt:i < ops.size:=(Array.getElem?_eq_some_iff.1 ho1).1
    have hcond:=hout i hlt
    simp only [Bool.or_eq_true,List.contains_iff_mem,h,false_or,List.all_eq_true] at hcond
    rcases hcond with hc | hc
    ·rw [←(ho i h).2] at hc; rw [hc] at hiu; cases hiu
    have:=reach_listed hdc ops.size i j (fun o' ho' e he hbd=>by rw [ho1] at ho'; injection ho' with ho'; subst ho'; exact hdeps e he hbd) (hc j hj)
    rw [hju] at this; cases this
   have hil:i < l.size:=by rw [hs]; exact hsz i hif
   have hiF:l.getD i false=false:=by simp [Array.getD,hil] at hiu ⊢; exact hiu
   obtain ⟨o',ho2,hd,hsel,hlooks,_⟩:=hspec i hif
   rw [ho1] at ho2
   injection ho2 with ho2
   subst ho2
   obtain ⟨he,hw⟩:=pa_exec (ops:=ops) (a0:=a0) (dst:=dst) (fl:=fl) (l:=l) (v:=v) hsel (fun j hj hjl=>(hlooks j hj (fun e=>by rw [e,hiF] at hjl; cases hjl)).1)
   refine wpOp_pa (R:=fun x w'=>Fact i x w'∧(al i=true→NewP x w)∧Below w.heap.size w w'∧S w') pa_defers ho1 hd (hdn i hif) he hw hQ (fun K hK=>hop i hif w hb K (fun x w' h1 h2 h3 h4=>hK x w' ⟨h1,h2,h3,h4⟩)) (fun x w' hR=>?_)
   obtain ⟨hF,hN,hB,hSw⟩:=hR
   refine ⟨hSw,?_⟩
   rw [pa_put hnd hif hinj hil hiF]
   refine ih (l.setIfInBounds i true) w' (upV v i x) (by simpa using hs) (fun j hj=>?_) (fun j oj hj hoj e hem hbd=>?_) ?_ (Below.trans hb (hB.mono hb.size)) (fun j hj hjl=>?_) (fun a ha b hb' hab hal hbl hA hB'=>?_)
   ·have hji:j≠i:=fun e=>hj (e ▸ hif)
    rw [getD_set_other hji,getD_set_other hji]
    exact ho j hj
   ·have hdl:l.getD e.on false=true:=by
     by_cases hji:j=i
     ·subst hji; rw [ho1] at hoj; injection hoj with hoj; subst hoj; exact hdeps e hem hbd
     rw [getD_set_other hji] at hj; exact hdc j oj hj hoj e hem hbd
    by_cases hei:e.on=i
    ·rw [hei]; exact getD_set_same hil _
    rw [getD_set_other hei]; exact hdl
   ·have:=filter_set hnd hif hil hiF
    omega
   ·unfold upV
    by_cases hji:j=i
    ·subst hji; rw [if_pos rfl]; exact hF
    rw [if_neg hji]
    rw [getD_set_other hji] at hjl
    exact hst j (v j) w w' (hf j hj hjl) hB
   unfold upV
   by_cases h1:a=i
   ·subst h1
    have hba:b≠a:=fun e=>hab e.symm
    rw [if_pos rfl,if_neg hba]
    rw [getD_set_other hba] at hbl
    exact newP_ne (hN hA) (hold b (v b) w hB' (hf b hb' hbl))
   rw [if_neg h1]
   rw [getD_set_other h1] at hal
   by_cases h2:b=i
   ·subst h2
    rw [if_pos rfl]
    exact fun e=>newP_ne (hN hB') (hold a (v a) w hA (hf a ha hal)) e.symm
   rw [if_neg h2]
   rw [getD_set_other h2] at hbl
   exact hp a ha b hb' hab hal hbl hA hB'
 have h0:pa a0 dst fl l0 (fun _=>undef)=a0:=by
  have:∀ r:List Nat,(∀ i ∈ r,i ∈ fl)→pa a0 dst r l0 (fun _=>undef)=a0:=by
   intro r
   induction r with
   | nil=>intro _; rfl
   | cons i r ihr =>
    intro h
    have hi:=hun i (h i (by simp))
    have hlt:=hsz i (h i (by simp))
    unfold pa
    rw [if_neg (by simp [Array.getD,hlt] at hi ⊢; exact hi)]
    exact ihr fun j hj=>h j (List.mem_cons_of_mem _ hj)
  exact this fl fun i hi=>hi
 have hlen:(fl.filter fun i => !l0.getD i false).length=fl.length:=by
  rw [List.filter_eq_self.2 fun i hi=>by have h1:=hun i hi; have hlt:=hsz i hi; simp [Array.getD,hlt] at h1 ⊢; exact h1]
 have hfin:=key fl.length l0 w0 (fun _=>undef) rfl (fun j _=>⟨rfl,rfl⟩) hdc0 hlen hb0 (fun i hi h=>by have h1:=hun i hi; have hlt:=hsz i hi; simp [Array.getD,hlt] at h1 h; rw [h1] at h; cases h) (fun i hi j hj _ h=>by have h1:=hun i hi; have hlt:=hsz i hi; simp [Array.getD,hlt] at h1 h; rw [h1] at h; cases h)
 rw [h0] at hfin
 exact hfin
/-- An operation that may come up at any time: its number, its temporary, whether it makes a block of its own, and what is known of its value. -/
structure FlOp where
 i:Nat
 d:Nat
 al:Bool
 A:Value→World→Prop
def AllF (p:FlOp→Prop):List FlOp→Prop
 | []=>True
 | s :: r=>p s∧AllF p r
theorem AllF.mem {p:FlOp→Prop} {l:List FlOp} (h:AllF p l):∀ s ∈ l,p s:=by
 induction l with
 | nil=>intro s hs; cases hs
 | cons t r ih =>
  intro s hs
  rcases List.mem_cons.1 hs with rfl | hs
  ·exact h.1
  ·exact ih h.2 s hs
theorem AllF.of {p:FlOp→Prop} {l:List FlOp} (h:∀ s ∈ l,p s):AllF p l:=by
 induction l with
 | nil=>trivial
 | cons t r ih=>exact ⟨h t (by simp),ih fun s hs=>h s (List.mem_cons_of_mem _ hs)⟩
def dF (fl:List FlOp) (i:Nat):Nat:=match fl with
 | []=>0
 | s :: r=>if s.i=i then s.d else dF r i
def aF (fl:List FlOp) (i:Nat):Bool:=match fl with
 | []=>false
 | s :: r=>if s.i=i then s.al else aF r i
theorem dF_mem {fl:List FlOp} (hnd:(fl.map (·.i)).Nodup):∀ s ∈ fl,dF fl s.i=s.d∧aF fl s.i=s.al:=by
 induction fl with
 | nil=>intro s hs; cases hs
 | cons t r ih =>
  rw [List.map_cons,List.nodup_cons] at hnd
  intro s hs
  rcases List.mem_cons.1 hs with rfl | hs
  ·exact ⟨if_pos rfl,if_pos rfl⟩
  ·have hne:¬ t.i=s.i:=fun e=>hnd.1 (List.mem_map.2 ⟨s,hs,e.symm⟩)
   have:=ih hnd.2 s hs
   unfold dF aF
   rw [if_neg hne,if_neg hne]
   exact this
theorem i_inj {fl:List FlOp} (hnd:(fl.map (·.i)).Nodup):∀ s ∈ fl,∀ t ∈ fl,s.i=t.i→s=t:=by
 induction fl with
 | nil=>intro s hs; cases hs
 | cons u r ih =>
  rw [List.map_cons,List.nodup_cons] at hnd
  intro s hs t ht e
  rcases List.mem_cons.1 hs with h1 | h1 <;> rcases List.mem_cons.1 ht with h2 | h2
  ·rw [h1,h2]
  ·exact absurd (List.mem_map.2 ⟨t,h2,by rw [←e,h1]⟩) hnd.1
  ·exact absurd (List.mem_map.2 ⟨s,h1,by rw [e,h2]⟩) hnd.1
  ·exact ih hnd.2 s h1 t h2 e
/-- The frame behind all of them. -/
def paF (a0:Act) (v:Nat→Value):List FlOp→Act
 | []=>a0
 | s :: r=>(paF a0 v r).put (some s.d) (v s.i)
theorem pa_paF {a0:Act} {v:Nat→Value} {dst:Nat→Nat} {l:Array Bool} {fl:List FlOp} (hd:∀ s ∈ fl,dst s.i=s.d) (hl:∀ s ∈ fl,l.getD s.i false=true):pa a0 dst (fl.map (·.i)) l v=paF a0 v fl:=by
 induction fl with
 | nil=>rfl
 | cons s r ih =>
  have h2:=ih (fun t ht=>hd t (List.mem_cons_of_mem _ ht)) (fun t ht=>hl t (List.mem_cons_of_mem _ ht))
  rw [List.map_cons,pa,if_pos (hl s (by simp)),hd s (by simp),h2]
  rfl
theorem wpAnyH_floats {base:World} {a0:Act} (fl:List FlOp) (n:Nat) {l0:Array Bool} {m:Nat} (hm:n+fl.length=m)
  (hok:flOk md ops (fl.map (·.i)) (dF fl) l0 a0.tmps.size=true) (hnd:(fl.map (·.i)).Nodup) (hQ:∀ c a a' w,a'.defers=a.defers→Q (.panic c) a w→Q (.panic c) a' w)
  (hst:AllF (fun s=>∀ x w w',s.A x w→Below w.heap.size w w'→s.A x w') fl) (hold:AllF (fun s=>s.al=true→∀ x w,s.A x w→OldP x w) fl)
  (hop:AllF (fun s=>∀ w,Below base.heap.size base w→∀ K:Act→World→Prop,(∀ x w',s.A x w'→(s.al=true→NewP x w)→Below w.heap.size w w'→S w'→K (a0.put (some s.d) x) w')→wpOp P ops Q s.i K a0 w) fl)
  (hend:∀ (v:Nat→Value) w,Below base.heap.size base w→AllF (fun s=>s.A (v s.i) w) fl→(∀ s ∈ fl,∀ t ∈ fl,s.i≠t.i→s.al=true→t.al=true→v s.i≠v t.i)→wpAnyH P md ops Q S n (setA l0 (fl.map (·.i))) (paF a0 v fl) w)
  {w0:World} (hb0:Below base.heap.size base w0):wpAnyH P md ops Q S m l0 a0 w0:=by
 subst hm
 have hD:=dF_mem hnd
 have key:=wpAnyH_float (P:=P) (Q:=Q) (S:=S) (base:=base) (a0:=a0) (fl:=fl.map (·.i)) (dst:=dF fl) (al:=aF fl) (l0:=l0) (Fact:=fun i x w=>∃ s ∈ fl,s.i=i∧s.A x w) hok hnd hQ
  (fun i x w w' ⟨s,hs,e,h⟩ hb=>⟨s,hs,e,hst.mem s hs x w w' h hb⟩)
  (fun i x w ha ⟨s,hs,e,h⟩=>hold.mem s hs (by rw [←(hD s hs).2,e]; exact ha) x w h)
  (fun i hi w hb K hK=>by
   obtain ⟨s,hs,rfl⟩:=List.mem_map.1 hi
   refine hop.mem s hs w hb K fun x w' h1 h2 h3 h4=>?_
   have:=hK x w' ⟨s,hs,rfl,h1⟩ (fun ha=>h2 (by rw [←(hD s hs).2]; exact ha)) h3 h4
   rwa [(hD s hs).1] at this)
  n
  (fun v w hb hf hp=>by
   rw [pa_paF (fun s hs=>(hD s hs).1) (fun s hs=>by
    have hsz:∀ i ∈ fl.map (·.i),i < l0.size:=fun i hi=>by
     unfold flOk at hok
     simp only [Bool.and_eq_true,List.all_eq_true] at hok
     have:=(hok.1.1 i hi).1.1.1
     simpa using this
    rw [setA_get l0 _ hsz,if_pos (List.mem_map.2 ⟨s,hs,rfl⟩)])]
   refine hend v w hb (AllF.of fun s hs=>?_) (fun s hs t ht hne h1 h2=>hp s.i (List.mem_map.2 ⟨s,hs,rfl⟩) t.i (List.mem_map.2 ⟨t,ht,rfl⟩) hne (by rw [(hD s hs).2]; exact h1) (by rw [(hD t ht).2]; exact h2))
   obtain ⟨t,ht,e,h⟩:=hf s.i (List.mem_map.2 ⟨s,hs,rfl⟩)
   rw [i_inj hnd t ht s hs e] at h
   exact h)
  hb0
 rw [List.length_map] at key
 exact key
theorem wpAnyH_cast3 {fuel:Nat} {L L':Array Bool} {A A':Act} {w:World} (hA:A=A') (hL:L=L') (h:wpAnyH P md ops Q S fuel L A w):wpAnyH P md ops Q S fuel L' A' w:=hA ▸ hL ▸ h
end
end Go.Proofs.YtdgicnhadecldaaGreat
