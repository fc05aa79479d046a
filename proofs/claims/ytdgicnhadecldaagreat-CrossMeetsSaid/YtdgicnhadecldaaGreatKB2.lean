/- Mathematics of digits, words for memory. Conditions: as each statement has them. -/
import Derived.Laws.BitsAllLaws
import Derived.Lib.Hide
import Derived.IntWalk
import Derived.Below
import Derived.Laws.OwnMore
import Derived.WideShapes
import Derived.Laws.Rows
import Derived.OwnWalk
import Derived.Laws.AppendOwnNone
import Derived.Maps.AppendAt
import Derived.Lib.ConvBytes
import Derived.Laws.Slices
import Derived.Laws.BytesString
import Derived.Laws.Cells
import Derived.Lib.AppendStr
import Derived.Deep.Draws
import Derived.Laws.NewBlocks
import Derived.WalkKit
import Derived.Outline
import Derived.WalkSpells
import Derived.WalkLawsBesides
import Derived.LoopTactic
import Derived.Deep.QuietTactic
import Derived.BigQuiet
import Derived.Test.YtdgicnhadecldaaGreatProg
import Derived.Deep.RegionHeld3
import Derived.Deep.DrawnRows
import Derived.RegionTactic
import Derived.ChangeAlike
namespace Go.Proofs.YtdgicnhadecldaaGreat
set_option maxRecDepth 100000
set_option maxHeartbeats 12800000
open Go.RowKit
theorem hJ {p:Prop} (h:p):Hid p:=Lib.hid h

end Go.Proofs.YtdgicnhadecldaaGreat

namespace Go.Proofs.YtdgicnhadecldaaGreat
set_option maxRecDepth 100000
set_option maxHeartbeats 12800000
open Go.RowKit

end Go.Proofs.YtdgicnhadecldaaGreat

namespace Go.Proofs.YtdgicnhadecldaaGreat
set_option maxRecDepth 100000
set_option maxHeartbeats 12800000
open Go.RowKit

end Go.Proofs.YtdgicnhadecldaaGreat

namespace Go.Proofs.YtdgicnhadecldaaGreat
set_option maxRecDepth 100000
set_option maxHeartbeats 12800000
open Go.RowKit

/-- A list of integers of one kind as values. -/
def vs (k:IntKind) (xs:List Int):List Value:=xs.map (Value.int k)
theorem vs_length (k:IntKind) (xs:List Int):(vs k xs).length=xs.length:=by simp [vs]
theorem vs_one (k:IntKind) (xs:List Int):∀ u ∈ vs k xs,u.oneCell'=true:=by
  intro u hu
  obtain ⟨x,_,rfl⟩:=List.mem_map.1 hu
  rfl
theorem vs_get {k:IntKind} {xs:List Int} {j:Nat} {v:Int} (h:xs[j]?=some v):(vs k xs)[j]?=some (.int k v):=by simp [vs,h]

section
variable {k:IntKind} {w w':World} {B B':Nat} {sv:Value} {xs:List Int}
end
end Go.Proofs.YtdgicnhadecldaaGreat

namespace Go.Proofs.YtdgicnhadecldaaGreat
set_option maxRecDepth 100000
set_option maxHeartbeats 12800000
open Go.RowKit

/-- Of what was there, the blocks of t alone have turned. -/
structure Kp (t:Nat→Prop) (w w':World):Prop where
  os:w'.os=w.os
  tape:w'.tape=w.tape
  output:w'.output=w.output
  size:w.heap.size≤w'.heap.size
  block:∀ k,k < w.heap.size→¬ t k→w'.heap[k]?=w.heap[k]?
section
variable {t t':Nat→Prop} {w w' w'':World}
theorem Kp.refl (t:Nat→Prop) (w:World):Kp t w w:=⟨rfl,rfl,rfl,Nat.le_refl _,fun _ _ _=>rfl⟩
theorem Kp.trans (h:Kp t w w') (h':Kp t w' w''):Kp t w w'' :=
  ⟨h'.os.trans h.os,h'.tape.trans h.tape,h'.output.trans h.output,Nat.le_trans h.size h'.size,fun k hk ht=>(h'.block k (Nat.lt_of_lt_of_le hk h.size) ht).trans (h.block k hk ht)⟩
/-- Behind it a step of another kind: what that one turns below the first world's size is of the first one's kind. -/
theorem Kp.step (h:Kp t w w') (h':Kp t' w' w'') (hs:∀ k,k < w.heap.size→t' k→t k):Kp t w w'' :=
  ⟨h'.os.trans h.os,h'.tape.trans h.tape,h'.output.trans h.output,Nat.le_trans h.size h'.size,fun k hk ht=>(h'.block k (Nat.lt_of_lt_of_le hk h.size) (fun e=>ht (hs k hk e))).trans (h.block k hk ht)⟩
theorem Kp.drew (h:Kp t w w'):Kp t w w'.drew:=⟨h.os,h.tape,h.output,h.size,h.block⟩
theorem Kp.alloc (h:Kp t w w') (o:Obj):Kp t w (w'.alloc o) :=
  h.trans ⟨rfl,rfl,rfl,by simp,fun k hk _=>Below.heap_alloc _ _ _ hk⟩
theorem Kp.setCell (h:Kp t w w') {p:Addr} (hp:p.block < w.heap.size→t p.block) (u:Value):Kp t w (w'.setCell p u) :=
  h.step (t':=fun k=>k=p.block) ⟨rfl,rfl,rfl,by simp [World.setCell],fun k _ ht=>Below.heap_setCell _ _ _ _ ht⟩ (fun k hk e=>by subst e; exact hp hk)
theorem Kp.grown (h:Kp t w w') {row:Option Nat} (hg:w'.grownBy w'' row) (hr:∀ k,row=some k→k < w.heap.size→t k):Kp t w w'' :=
  h.step (t':=fun k=>row=some k) ⟨hg.os,hg.tape,hg.output,hg.size,fun k hk ht=>hg.block k hk (fun e=>ht e.symm)⟩ (fun k hk e=>hr k e hk)
theorem Kp.of_below {B:Nat} (h:Below B w w') (hB:∀ k,k < w.heap.size→B≤k→t k):Kp t w w' :=
  ⟨h.os,h.tape,h.output,h.size,fun k hk ht=>h.block k (by rcases Nat.lt_or_ge k B with hlt | hge; exact hlt; exact absurd (hB k hk hge) ht)⟩
theorem Kp.new (h:Below w.heap.size w w'):Kp t w w':=Kp.of_below h fun k hk hB=>by omega
theorem Kp.below_new (h:Kp t w w') (ht:∀ k,k < w.heap.size→¬ t k):Below w.heap.size w w' :=
  ⟨h.os,h.tape,h.output,h.size,fun k hk=>h.block k hk (ht k hk)⟩
theorem Kp.cell (h:Kp t w w') {p:Addr} (hp:p.block < w.heap.size) (ht:¬ t p.block):w'.cell? p=w.cell? p:=World.cell?_of_block (w:=w) (h.block p.block hp ht)
end

/-- The slice value reads as xs; it lies in a block of the kind ok. -/
def In (k:IntKind) (w:World) (ok:Nat→Prop) (sv:Value) (xs:List Int):Prop :=
  (sv=.slice none 0 0∧xs=[])∨∃ b off c,sv=.slice (some ⟨b,off,none⟩) xs.length c∧xs.length≤c∧ok b∧b < w.heap.size∧∀ j v,xs[j]?=some v→w.cell? ⟨b,off+j,none⟩=some (.int k v)
section
variable {k:IntKind} {w w':World} {ok ok' t:Nat→Prop} {sv:Value} {xs:List Int} {B:Nat}
theorem In.mono (h:In k w ok sv xs) (ho:∀ b,b < w.heap.size→ok b→ok' b):In k w ok' sv xs:=by
  rcases h with h | ⟨b,off,c,h1,h2,h3,h4,h5⟩
  · exact .inl h
  · exact .inr ⟨b,off,c,h1,h2,ho b h4 h3,h4,h5⟩
theorem In.kp (h:In k w ok sv xs) (hk:Kp t w w') (ht:∀ b,b < w.heap.size→ok b→¬ t b):In k w' ok sv xs:=by
  rcases h with h | ⟨b,off,c,h1,h2,h3,h4,h5⟩
  · exact .inl h
  · exact .inr ⟨b,off,c,h1,h2,h3,Nat.lt_of_lt_of_le h4 hk.size,fun j v hj=>(hk.cell (p:=⟨b,off+j,none⟩) h4 (ht b h4 h3)).trans (h5 j v hj)⟩
theorem In.new (h:In k w ok sv xs) (hb:Below w.heap.size w w'):In k w' ok sv xs:=h.kp (t:=fun _=>False) (Kp.new hb) fun _ _ _ e=>e
theorem In.at_ {a:Option Addr} {n c:Nat} (h:In k w ok (.slice a n c) xs) {j:Nat} (hj:j < xs.length) :
    ∃ b off,a=some ⟨b,off,none⟩∧ok b∧b < w.heap.size∧w.cell? ⟨b,off+j,none⟩=some (.int k (xs.getD j 0)):=by
  rcases h with ⟨_,rfl⟩ | ⟨b,off,c',h1,_,h3,h4,h5⟩
  · simp at hj
  · injection h1 with h1
    exact ⟨b,off,h1,h3,h4,h5 j _ (by rw [List.getD_eq_getElem?_getD,List.getElem?_eq_getElem hj]; rfl)⟩
theorem In.own {base e n:Nat} (h:w.ownsRow base e 1 sv n (vs k xs)):In k w (base ≤ ·) sv xs:=by
  have hl:n=xs.length:=by have:=h.1; rw [vs_length] at this; omega
  subst hl
  rcases h.2 with ⟨rfl,h0⟩ | ⟨g,cap,cur,rfl,hb,hh,hc,_⟩
  · exact .inl ⟨rfl,List.eq_nil_of_length_eq_zero h0⟩
  · refine .inr ⟨g,0,cap,rfl,hc,hb,(Array.getElem?_eq_some_iff.1 hh).1,fun j v hj=>?_⟩
    have:=h.cells (g:=g) rfl j _ (vs_get hj)
    rwa [Go.WideShapes.add_plain] at this
theorem In.nil:In k w ok (.slice none 0 0) []:=.inl ⟨rfl,rfl⟩
theorem In.len {a:Option Addr} {n c:Nat} (h:In k w ok (.slice a n c) xs):n=xs.length∧n≤c:=by
  rcases h with ⟨h,rfl⟩ | ⟨b,off,c',h1,h2,_⟩
  · injection h with _ h1 h2; subst h1 h2; exact ⟨rfl,Nat.le_refl _⟩
  · injection h1 with _ h1 h3; subst h1 h3; exact ⟨rfl,h2⟩
theorem In.cells {a:Option Addr} {n c:Nat} (h:In k w ok (.slice a n c) xs) (h0:0 < n):∃ ad,a=some ad∧∀ j u,(vs k xs)[j]?=some u→w.cell? (ad.add j)=some u:=by
  rcases h with ⟨h,rfl⟩ | ⟨b,off,c',h1,h2,_,_,h5⟩
  · injection h with _ h1; omega
  · injection h1 with h1
    refine ⟨⟨b,off,none⟩,h1,fun j u hu=>?_⟩
    simp only [vs,List.getElem?_map,Option.map_eq_some_iff] at hu
    obtain ⟨v,hv,rfl⟩:=hu
    rw [Go.WideShapes.add_plain]
    exact h5 j v hv

end

end Go.Proofs.YtdgicnhadecldaaGreat

namespace Go.Proofs.YtdgicnhadecldaaGreat
set_option maxRecDepth 100000
set_option maxHeartbeats 12800000

def val (B:Nat):List Nat→Nat
  | []=>0
  | d :: r=>d+B*val B r
def digs (B n:Nat):List Nat:=if _h:n=0∨B < 2 then [] else n % B :: digs B (n / B)
termination_by n
decreasing_by exact Nat.div_lt_self (by omega) (by omega)
def Dig (B:Nat) (l:List Nat):Prop:=∀ d ∈ l,d < B

section
variable {B:Nat}
theorem digs_zero:digs B 0=[]:=by rw [digs]; simp
theorem digs_pos (hB:2≤B) {n:Nat} (h:n≠0):digs B n=n % B :: digs B (n / B):=by rw [digs]; simp [h,show ¬ B < 2 by omega]
theorem val_digs (hB:2≤B) (n:Nat):val B (digs B n)=n:=by
  induction n using Nat.strongRecOn with
  | _ n ih =>
    by_cases h:n=0
    · subst h; rw [digs_zero]; rfl
    · rw [digs_pos hB h,val,ih (n / B) (Nat.div_lt_self (by omega) (by omega))]
      exact Nat.mod_add_div n B
theorem dig_digs (hB:2≤B) (n:Nat):Dig B (digs B n):=by
  induction n using Nat.strongRecOn with
  | _ n ih =>
    by_cases h:n=0
    · subst h; rw [digs_zero]; intro d hd; cases hd
    · rw [digs_pos hB h]
      intro d hd
      rcases List.mem_cons.1 hd with rfl | hd
      · exact Nat.mod_lt _ (by omega)
      · exact ih (n / B) (Nat.div_lt_self (by omega) (by omega)) d hd
theorem digs_nil (hB:2≤B) {n:Nat}:digs B n=[]↔n=0:=by
  constructor
  · intro h
    have:=val_digs hB n
    rw [h] at this
    exact this.symm
  · rintro rfl; exact digs_zero
theorem dig_nil:Dig B []:=fun d hd=>by cases hd
theorem dig_cons {d:Nat} {r:List Nat}:Dig B (d :: r)↔d < B∧Dig B r:=by simp [Dig]
theorem dig_append {a b:List Nat}:Dig B (a ++ b)↔Dig B a∧Dig B b:=by
  constructor
  · intro h; exact ⟨fun d hd=>h d (List.mem_append_left _ hd),fun d hd=>h d (List.mem_append_right _ hd)⟩
  · rintro ⟨h1,h2⟩ d hd
    rcases List.mem_append.1 hd with h | h
    · exact h1 d h
    · exact h2 d h
theorem dig_snoc {a:List Nat} {d:Nat} (h:Dig B a) (hd:d < B):Dig B (a ++ [d]):=dig_append.2 ⟨h,dig_cons.2 ⟨hd,dig_nil⟩⟩
theorem dig_take {l:List Nat} (h:Dig B l) (i:Nat):Dig B (l.take i):=fun d hd=>h d (List.mem_of_mem_take hd)
theorem dig_drop {l:List Nat} (h:Dig B l) (i:Nat):Dig B (l.drop i):=fun d hd=>h d (List.mem_of_mem_drop hd)
theorem dig_getD (hB:0 < B) {l:List Nat} (h:Dig B l) (i:Nat):l.getD i 0 < B:=by
  rw [List.getD_eq_getElem?_getD]
  rcases hi:l[i]? with _ | d
  · exact hB
  · exact h d (List.mem_of_getElem? hi)
theorem dig_set {l:List Nat} (h:Dig B l) (i v:Nat) (hv:v < B):Dig B (l.set i v):=by
  intro d hd
  rcases List.mem_or_eq_of_mem_set hd with h1 | rfl
  · exact h d h1
  · exact hv
theorem dig_zeros (hB:0 < B) (n:Nat):Dig B (List.replicate n 0):=fun d hd=>by rw [(List.mem_replicate.1 hd).2]; exact hB
theorem val_append (a b:List Nat):val B (a ++ b)=val B a+B ^ a.length*val B b:=by
  induction a with
  | nil=>simp [val]
  | cons d a ih =>
    rw [List.cons_append,val,ih,val,List.length_cons,Nat.pow_succ,Nat.mul_add,←Nat.mul_assoc,Nat.mul_comm B (B ^ a.length)]
    omega
theorem val_one (d:Nat):val B [d]=d:=by simp [val]
theorem val_snoc (a:List Nat) (d:Nat):val B (a ++ [d])=val B a+B ^ a.length*d:=by
  rw [val_append,val_one]
theorem val_zeros (n:Nat):val B (List.replicate n 0)=0:=by
  induction n with
  | zero=>rfl
  | succ n ih=>rw [List.replicate_succ,val,ih]; rfl
theorem val_take_succ (l:List Nat) (i:Nat):val B (l.take (i+1))=val B (l.take i)+B ^ i*l.getD i 0:=by
  rw [List.getD_eq_getElem?_getD]
  by_cases h:i < l.length
  · rw [List.take_succ_eq_append_getElem h,val_snoc,List.getElem?_eq_getElem h,List.length_take,Nat.min_eq_left (by omega)]
    rfl
  · rw [List.take_of_length_le (by omega),List.take_of_length_le (by omega),List.getElem?_eq_none (by omega)]
    simp
theorem val_lt (_hB:0 < B) {l:List Nat} (h:Dig B l):val B l < B ^ l.length:=by
  induction l with
  | nil=>simp [val]
  | cons d r ih =>
    have h1:=(dig_cons.1 h).1
    have h2:=ih (dig_cons.1 h).2
    rw [val,List.length_cons,Nat.pow_succ]
    have h3:B*(val B r+1)≤B*B ^ r.length:=Nat.mul_le_mul_left B h2
    rw [Nat.mul_add,Nat.mul_one] at h3
    rw [Nat.mul_comm (B ^ r.length) B]
    omega
theorem val_take_add (l:List Nat) (i:Nat):val B l=val B (l.take i)+B ^ i*val B (l.drop i):=by
  by_cases h:i≤l.length
  · have:=val_append (B:=B) (l.take i) (l.drop i)
    rw [List.take_append_drop,List.length_take,Nat.min_eq_left h] at this
    exact this
  · rw [List.take_of_length_le (by omega),List.drop_of_length_le (by omega)]
    simp [val]
theorem val_drop (l:List Nat) (i:Nat):val B (l.drop i)=l.getD i 0+B*val B (l.drop (i+1)):=by
  rw [List.getD_eq_getElem?_getD]
  by_cases h:i < l.length
  · rw [List.drop_eq_getElem_cons h,val,List.getElem?_eq_getElem h]
    rfl
  · rw [List.drop_of_length_le (by omega),List.drop_of_length_le (by omega),List.getElem?_eq_none (by omega)]
    simp [val]
theorem val_take_all {l:List Nat} {i:Nat} (h:l.length≤i):val B (l.take i)=val B l:=by rw [List.take_of_length_le h]
/-- Digits without a zero at the end are those of their value. -/
def Norm (l:List Nat):Prop:=l=[]∨l.getD (l.length - 1) 0≠0
theorem norm_eq (hB:2≤B) {l:List Nat} (h:Dig B l) (hl:Norm l):l=digs B (val B l):=by
  induction l with
  | nil=>rw [val,digs_zero]
  | cons d r ih =>
    have h1:=(dig_cons.1 h).1
    have h2:=(dig_cons.1 h).2
    have hl:=hl.resolve_left (by simp)
    have hr:Norm r:=by
      cases r with
      | nil=>exact .inl rfl
      | cons x r=>exact .inr (by simpa using hl)
    have hi:=ih h2 hr
    have hv:val B (d :: r)≠0:=by
      rw [val]
      intro h0
      have hr0:val B r=0:=by
        rcases Nat.eq_zero_or_pos (val B r) with e | e
        · exact e
        · have:=Nat.mul_pos (show 0 < B by omega) e
          omega
      rw [hr0,digs_zero] at hi
      subst hi
      simp at hl
      omega
    rw [digs_pos hB hv]
    have e1:val B (d :: r) % B=d:=by rw [val,Nat.add_mul_mod_self_left,Nat.mod_eq_of_lt h1]
    have e2:val B (d :: r) / B=val B r:=by rw [val,Nat.add_mul_div_left _ _ (by omega),Nat.div_eq_of_lt h1,Nat.zero_add]
    rw [e1,e2,←hi]
theorem digs_last (hB:2≤B) {n:Nat} (h:n≠0):(digs B n).getD ((digs B n).length - 1) 0≠0:=by
  induction n using Nat.strongRecOn with
  | _ n ih =>
    rw [digs_pos hB h]
    by_cases h1:n / B=0
    · rw [h1,digs_zero]
      have:=Nat.mod_add_div n B
      rw [h1] at this
      simp
      omega
    · have:=ih (n / B) (Nat.div_lt_self (by omega) (by omega)) h1
      have hne:digs B (n / B)≠[]:=fun e=>h1 ((digs_nil hB).1 e)
      have hp:=Nat.pos_of_ne_zero (fun e=>hne (List.eq_nil_of_length_eq_zero e))
      rw [List.length_cons,Nat.add_sub_cancel]
      obtain ⟨k,hk⟩:∃ k,(digs B (n / B)).length=k+1:=⟨_,(Nat.succ_pred_eq_of_pos hp).symm⟩
      rw [hk] at this ⊢
      simpa using this
theorem digs_len_le (hB:2≤B) {n k:Nat} (h:n < B ^ k):(digs B n).length≤k:=by
  induction k generalizing n with
  | zero =>
    obtain rfl:n=0:=by simpa using h
    rw [digs_zero]; simp
  | succ k ih =>
    by_cases h0:n=0
    · subst h0; rw [digs_zero]; simp
    · rw [digs_pos hB h0,List.length_cons]
      have:=ih (n:=n / B) (Nat.div_lt_of_lt_mul (by rw [Nat.pow_succ,Nat.mul_comm] at h; exact h))
      omega
theorem digs_lt (hB:2≤B) (n:Nat):n < B ^ (digs B n).length:=by
  have:=val_lt (B:=B) (by omega) (dig_digs hB n)
  rwa [val_digs hB] at this
theorem digs_ge (hB:2≤B) {n:Nat} (h:n≠0):B ^ ((digs B n).length - 1)≤n:=by
  rcases Nat.lt_or_ge n (B ^ ((digs B n).length - 1)) with h1 | h1
  · have:=digs_len_le hB h1
    have hne:digs B n≠[]:=fun e=>h ((digs_nil hB).1 e)
    have:=List.length_pos_iff.2 hne
    omega
  · exact h1
theorem digs_len_lt (hB:2≤B) {a b:Nat} (h:(digs B a).length < (digs B b).length):a < b:=by
  rcases Nat.lt_or_ge a b with h1 | h1
  · exact h1
  · have:=digs_len_le hB (n:=b) (k:=(digs B a).length) (Nat.lt_of_le_of_lt h1 (digs_lt hB a))
    omega
theorem digs_len_mono (hB:2≤B) {a b:Nat} (h:a≤b):(digs B a).length≤(digs B b).length:=by
  rcases Nat.lt_or_ge (digs B b).length (digs B a).length with h1 | h1
  · have:=digs_len_lt hB h1; omega
  · exact h1
/-- Zeros are taken from the end. -/
theorem digs_of_zeros (hB:2≤B) {l m:List Nat} (h:Dig B l) (hm:∃ k,l=m ++ List.replicate k 0) (hn:Norm m):m=digs B (val B l):=by
  obtain ⟨k,rfl⟩:=hm
  rw [val_append,val_zeros,Nat.mul_zero,Nat.add_zero]
  exact norm_eq hB (dig_append.1 h).1 hn
theorem take_zeros {l:List Nat} {k:Nat} (hk:k < l.length) (h0:l.getD k 0=0) (h:∃ j,l=l.take (k+1) ++ List.replicate j 0):∃ j,l=l.take k ++ List.replicate j 0:=by
  obtain ⟨j,hj⟩:=h
  refine ⟨j+1,?_⟩
  have e:l.take (k+1)=l.take k ++ [0]:=by
    rw [List.take_succ_eq_append_getElem hk]
    rw [List.getD_eq_getElem?_getD,List.getElem?_eq_getElem hk] at h0
    exact congrArg (l.take k ++ [·]) h0
  rw [e,List.append_assoc] at hj
  rw [List.replicate_succ]
  exact hj
theorem norm_take {l:List Nat} {k:Nat} (hk:k≤l.length) (h:k=0∨l.getD (k - 1) 0≠0):Norm (l.take k):=by
  rcases h with rfl | h
  · exact .inl (by simp)
  · rcases Nat.eq_zero_or_pos k with rfl | hp
    · exact .inl (by simp)
    · refine .inr ?_
      rw [List.length_take,Nat.min_eq_left hk,List.getD_eq_getElem?_getD,List.getElem?_take,if_pos (by omega),←List.getD_eq_getElem?_getD]
      exact h
/-- Compared from the top. -/
theorem val_cmp (hB:0 < B) {a b:List Nat} {i:Nat} (ha:Dig B a) (hd:a.drop (i+1)=b.drop (i+1)) (hlt:a.getD i 0 < b.getD i 0):val B a < val B b:=by
  have h1:=val_take_add (B:=B) a (i+1)
  have h2:=val_take_add (B:=B) b (i+1)
  rw [hd] at h1
  rw [val_take_succ] at h1 h2
  have h3:val B (a.take i) < B ^ i:=by
    have:=val_lt hB (dig_take ha i)
    rw [List.length_take] at this
    exact Nat.lt_of_lt_of_le this (Nat.pow_le_pow_right hB (Nat.min_le_left _ _))
  have h4:B ^ i*a.getD i 0+B ^ i≤B ^ i*b.getD i 0:=by
    have:=Nat.mul_le_mul_left (B ^ i) (show a.getD i 0+1≤b.getD i 0 from hlt)
    rw [Nat.mul_add,Nat.mul_one] at this
    exact this
  omega
theorem val_set {l:List Nat} {j:Nat} (hj:j < l.length) (v:Nat):val B (l.set j v)+B ^ j*l.getD j 0=val B l+B ^ j*v:=by
  have h1:=val_take_add (B:=B) l (j+1)
  have h2:=val_take_add (B:=B) (l.set j v) (j+1)
  rw [val_take_succ] at h1 h2
  have e1:(l.set j v).getD j 0=v:=by rw [List.getD_eq_getElem?_getD,List.getElem?_set_self hj]; rfl
  have e2:(l.set j v).take j=l.take j:=List.take_set_of_le (Nat.le_refl _)
  have e3:(l.set j v).drop (j+1)=l.drop (j+1):=List.drop_set_of_lt (by omega)
  rw [e1,e2,e3] at h2
  omega
/-- One step of a sum. -/
theorem plus_step {o:List Nat} {c i X Y x y:Nat} (ho:o.length=i) (h:val B o+B ^ i*c=X+Y):val B (o ++ [(x+y+c) % B])+B ^ (i+1)*((x+y+c) / B)=(X+B ^ i*x)+(Y+B ^ i*y):=by
  rw [val_snoc,ho,Nat.pow_succ]
  have e:B ^ i*B*((x+y+c) / B)=B ^ i*(B*((x+y+c) / B)):=by rw [Nat.mul_assoc]
  have e2:B ^ i*((x+y+c) % B)+B ^ i*(B*((x+y+c) / B))=B ^ i*x+B ^ i*y+B ^ i*c:=by
    rw [←Nat.mul_add,Nat.mod_add_div,Nat.mul_add,Nat.mul_add]
  omega
/-- One step of a difference: what is borrowed is added. -/
theorem minus_step {o:List Nat} {c i X Y x y d c':Nat} (ho:o.length=i) (h:val B o+Y=X+B ^ i*c') (hd:d+y+c'=x+B*c):val B (o ++ [d])+(Y+B ^ i*y)=(X+B ^ i*x)+B ^ (i+1)*c:=by
  rw [val_snoc,ho,Nat.pow_succ]
  have e:B ^ i*B*c=B ^ i*(B*c):=by rw [Nat.mul_assoc]
  have e2:B ^ i*d+B ^ i*y+B ^ i*c'=B ^ i*x+B ^ i*(B*c):=by
    rw [←Nat.mul_add,←Nat.mul_add,hd,Nat.mul_add]
  omega
/-- One step of a product's row: the carry moves on. -/
theorem mul_step {o:List Nat} {i k c x y R:Nat} (hj:i+k < o.length) (h:val B o+B ^ (i+k)*c=R) :
    val B (o.set (i+k) ((o.getD (i+k) 0+x*y+c) % B))+B ^ (i+k+1)*((o.getD (i+k) 0+x*y+c) / B)=R+B ^ i*x*(B ^ k*y):=by
  have hs:=val_set (B:=B) hj ((o.getD (i+k) 0+x*y+c) % B)
  have e1:B ^ i*x*(B ^ k*y)=B ^ (i+k)*(x*y):=by
    rw [Nat.pow_add]
    simp only [Nat.mul_assoc,Nat.mul_left_comm]
  have e2:B ^ (i+k+1)*((o.getD (i+k) 0+x*y+c) / B)=B ^ (i+k)*(B*((o.getD (i+k) 0+x*y+c) / B)):=by rw [Nat.pow_succ,Nat.mul_assoc]
  have e3:B ^ (i+k)*((o.getD (i+k) 0+x*y+c) % B)+B ^ (i+k)*(B*((o.getD (i+k) 0+x*y+c) / B))=B ^ (i+k)*o.getD (i+k) 0+B ^ (i+k)*(x*y)+B ^ (i+k)*c:=by
    rw [←Nat.mul_add,Nat.mod_add_div,Nat.mul_add,Nat.mul_add]
  omega
theorem carry_lt {o x y c:Nat} (h1:o < B) (h2:x < B) (h3:y < B) (h4:c < B):(o+x*y+c) / B < B:=by
  obtain ⟨k,rfl⟩:∃ k,B=k+1:=⟨B - 1,by omega⟩
  have h:=Nat.mul_le_mul (show x≤k by omega) (show y≤k by omega)
  rw [Nat.div_lt_iff_lt_mul (by omega),Nat.mul_add,Nat.add_mul]
  omega
end
end Go.Proofs.YtdgicnhadecldaaGreat

namespace Go.Proofs.YtdgicnhadecldaaGreat
set_option maxRecDepth 100000
set_option maxHeartbeats 12800000

end Go.Proofs.YtdgicnhadecldaaGreat

namespace Go.Proofs.YtdgicnhadecldaaGreat
set_option maxRecDepth 100000
set_option maxHeartbeats 12800000

/-- Quotient and rest for a positive divisor, from those of the absolute values. -/
theorem div_pos_of (a:Int) (b q0 r0:Nat) (hb:0 < b) (h:a.natAbs=q0*b+r0) (hr:r0 < b) :
    a / (b:Int)=(if a < 0 then -(q0:Int)+(if r0=0 then 0 else -1) else (q0:Int))∧a % (b:Int)=(if a < 0 then (if r0=0 then 0 else (b:Int) - r0) else (r0:Int)):=by
  have hm:((q0*b:Nat):Int)=(b:Int)*q0:=by rw [Int.natCast_mul,Int.mul_comm]
  have hb':(0:Int) < b:=by omega
  rw [Int.ediv_emod_unique hb']
  split
  · split
    · rename_i h1 h2
      subst h2
      refine ⟨?_,by omega,by omega⟩
      rw [Int.add_zero,Int.mul_neg]
      omega
    · rename_i h1 h2
      refine ⟨?_,by omega,by omega⟩
      rw [Int.mul_add,Int.mul_neg,Int.mul_neg,Int.mul_one]
      omega
  · refine ⟨?_,by omega,by omega⟩
    omega
/-- The same for a divisor of any sign. -/
theorem div_of (a b:Int) (q0 r0:Nat) (h:a.natAbs=q0*b.natAbs+r0) (hr:r0 < b.natAbs) :
    a / b=(if (a < 0)↔(b < 0) then (q0:Int) else -(q0:Int))+(if a < 0∧r0≠0 then (if b < 0 then 1 else -1) else 0) ∧
    a % b=(if a < 0∧r0≠0 then (b.natAbs:Int) - r0 else (r0:Int)):=by
  obtain ⟨h1,h2⟩:=div_pos_of a b.natAbs q0 r0 (by omega) h hr
  by_cases hn:b < 0
  · have e:b = -(b.natAbs:Int):=by omega
    have e1:a / b = -(a / (b.natAbs:Int)):=by
      rw [←Int.ediv_neg,←e]
    have e2:a % b=a % (b.natAbs:Int):=by
      have:=Int.emod_neg a (b.natAbs:Int)
      rw [←e] at this
      exact this
    rw [e1,e2,h1,h2]
    by_cases ha:a < 0 <;> by_cases h0:r0=0 <;> simp [ha,h0,hn] <;> omega
  · have e:b=(b.natAbs:Int):=by omega
    have e1:a / b=a / (b.natAbs:Int):=by rw [←e]
    have e2:a % b=a % (b.natAbs:Int):=by rw [←e]
    rw [e1,e2,h1,h2]
    by_cases ha:a < 0 <;> by_cases h0:r0=0 <;> simp [ha,h0,hn]
end Go.Proofs.YtdgicnhadecldaaGreat

namespace Go.Proofs.YtdgicnhadecldaaGreat
set_option maxRecDepth 100000
set_option maxHeartbeats 12800000
open Go.RowKit

def nI (l:List Nat):List Int:=l.map fun (d:Nat)=>(d:Int)
theorem nI_len (l:List Nat):(nI l).length=l.length:=by simp [nI]
theorem nI_take (l:List Nat) (i:Nat):nI (l.take i)=(nI l).take i:=by simp [nI]
theorem nI_set (l:List Nat) (i v:Nat):nI (l.set i v)=(nI l).set i (v:Int):=by simp [nI]
theorem nI_zeros (n:Nat):nI (List.replicate n 0)=List.replicate n 0:=by simp [nI]
theorem nI_get {l:List Nat} {j:Nat} (h:j < l.length):(nI l)[j]?=some ((l.getD j 0:Nat):Int):=by
  rw [nI,List.getElem?_map,List.getD_eq_getElem?_getD,List.getElem?_eq_getElem h]; rfl
theorem nI_getD {l:List Nat} {j:Nat} (h:j < l.length):(nI l).getD j 0=((l.getD j 0:Nat):Int):=by
  rw [List.getD_eq_getElem?_getD,nI_get h]; rfl
theorem getD_drop' (l:List Nat) (i j:Nat):(l.drop i).getD j 0=l.getD (i+j) 0:=by
  rw [List.getD_eq_getElem?_getD,List.getElem?_drop,←List.getD_eq_getElem?_getD]
theorem getD_take' {l:List Nat} {i j:Nat} (h:j < i):(l.take i).getD j 0=l.getD j 0:=by
  rw [List.getD_eq_getElem?_getD,List.getElem?_take,if_pos h,←List.getD_eq_getElem?_getD]
theorem getD_out {l:List Nat} {i:Nat} (h:l.length≤i):l.getD i 0=0:=by
  rw [List.getD_eq_getElem?_getD,List.getElem?_eq_none h]; rfl

/-- The slice value reads as the digits l, in a block of the kind ok. -/
def LO (k:IntKind) (ok:Nat→Prop) (w:World) (v:Value) (l:List Nat):Prop:=In k w ok v (nI l)
/-- The slice value reads as the digits l. -/
abbrev LI (k:IntKind) (w:World) (v:Value) (l:List Nat):Prop:=LO k (fun _=>True) w v l
section
variable {k:IntKind} {ok ok':Nat→Prop} {w w':World} {v:Value} {l:List Nat} {a:Option Addr} {n c:Nat}
theorem LO.new (h:LO k ok w v l) (hb:Below w.heap.size w w'):LO k ok w' v l:=In.new h hb
theorem LO.kp {t:Nat→Prop} (h:LO k ok w v l) (hk:Kp t w w') (ht:∀ b,b < w.heap.size→ok b→¬ t b):LO k ok w' v l:=In.kp h hk ht
theorem LO.mono (h:LO k ok w v l) (ho:∀ b,b < w.heap.size→ok b→ok' b):LO k ok' w v l:=In.mono h ho
theorem LO.weak (h:LO k ok w v l):LI k w v l:=In.mono h fun _ _ _=>trivial
theorem LO.lt (h:LO k ok w v l):LO k (· < w.heap.size) w v l:=In.mono h fun _ h _=>h
theorem LO.drew (h:LO k ok w v l):LO k ok w.drew v l:=h
theorem LO.nil:LO k ok w (.slice none 0 0) []:=In.nil
theorem LO.len (h:LO k ok w (.slice a n c) l):l.length=n∧n≤c:=by
  have:=In.len h
  rw [nI_len] at this
  exact ⟨this.1.symm,this.2⟩
theorem LO.at_ (h:LO k ok w (.slice a n c) l) {j:Nat} (hj:j < n):∃ b off,a=some ⟨b,off,none⟩∧b < w.heap.size∧w.cell? ⟨b,off+j,none⟩=some (.int k ((l.getD j 0:Nat):Int)):=by
  have hl:=h.len
  obtain ⟨b,off,h1,_,h2,h3⟩:=In.at_ h (j:=j) (by rw [nI_len]; omega)
  rw [nI_getD (by omega)] at h3
  exact ⟨b,off,h1,h2,h3⟩
theorem LO.own {base e:Nat} (h:w.ownsRow base e 1 v n (vs k (nI l))):LO k (base ≤ ·) w v l:=In.own h
theorem LI.own {base e:Nat} (h:w.ownsRow base e 1 v n (vs k (nI l))):LI k w v l:=(LO.own h).weak
/-- s[:j] lies where s lies. -/
theorem LO.to_same {P:Program} {ty e:TypeId} (ht:P.underlying ty=some (.slice e)) (hs:∀ W,(sizeOf e).run P W=.ok 1 W) {b off:Nat} (h:LO k ok w (.slice (some ⟨b,off,none⟩) n c) l) (j:Nat) (hj:j≤n) (hc0:0 < c) (z:Int) (hz:z=(j:Int)) :
    (∀ W,(Instr.slice ty (.slice (some ⟨b,off,none⟩) n c) none (some (.int .i64 z)) none).run P W=.ok (.slice (some ⟨b,off,none⟩) j c) W)∧LO k ok w (.slice (some ⟨b,off,none⟩) j c) (l.take j):=by
  have he:P.elem ty=e:=by simp [Program.elem,ht]
  obtain ⟨hn,hc⟩:=In.len h
  have hl:=h.len.1
  subst hz
  refine ⟨fun W=>?_,?_⟩
  · rw [run_slice_h (ht:=by rw [ht,he]) (h0:=by omega) (h2:=by omega),he,hs W]
    simp only [Result.andThen,sliced,Int.toNat_natCast,Nat.sub_zero]
    rw [if_neg (by omega),Nat.zero_mul,Option.map_some,Go.WideShapes.add_plain,Nat.add_zero]
  · rcases h with ⟨h,_⟩ | ⟨b',off',c',h1,h2,h3,h4,h5⟩
    · cases h
    · injection h1 with h1 h6 h7
      injection h1 with h1
      injection h1 with h1 h8
      subst h1 h8 h7
      have hlj:(nI (l.take j)).length=j:=by rw [nI_len,List.length_take]; omega
      refine .inr ⟨b,off,c,by rw [hlj],by omega,h3,h4,fun i v hi=>?_⟩
      rw [nI_take,List.getElem?_take] at hi
      split at hi
      · exact h5 i v hi
      · cases hi
end
theorem own_lit (k:IntKind) (w:World) (t:TypeId) (xs:List Int) (h:xs.length≤maxLen:=by decide):(w.alloc (.cells (vs k xs).toArray t)).ownsRow w.heap.size t 1 (.slice (some ⟨w.heap.size,0,none⟩) xs.length xs.length) xs.length (vs k xs) :=
  ⟨by rw [vs_length,Nat.mul_one],.inr ⟨w.heap.size,xs.length,_,rfl,Nat.le_refl _,heap_alloc_new w _,Nat.le_refl _,h,by simp [vs],by rw [Nat.mul_one]; exact List.take_of_length_le (by simp [vs])⟩⟩

/-- A block that is known whole: the digits l. -/
def Blk (k:IntKind) (w:World) (g:Nat) (t:TypeId) (l:List Nat):Prop:=w.heap[g]?=some (.cells (vs k (nI l)).toArray t (0,0))
section
variable {k:IntKind} {w w':World} {g:Nat} {t:TypeId} {l:List Nat}
theorem Blk.lt (h:Blk k w g t l):g < w.heap.size:=(Array.getElem?_eq_some_iff.1 h).1
theorem Blk.cell (h:Blk k w g t l) {i:Nat} (hi:i < l.length):w.cell? ⟨g,i,none⟩=some (.int k ((l.getD i 0:Nat):Int)):=by
  rw [cell_of_row w g i _ t (0,0) h]
  simpa using vs_get (k:=k) (nI_get hi)
theorem Blk.frozen (h:Blk k w g t l) (i:Nat):w.frozen? ⟨g,i,none⟩=false:=by
  unfold Blk at h
  simp [World.frozen?,h]
theorem Blk.drew (h:Blk k w g t l):Blk k w.drew g t l:=h
theorem Blk.alloc (h:Blk k w g t l) (o:Obj):Blk k (w.alloc o) g t l:=(Below.heap_alloc w o g h.lt).trans h
theorem Blk.new (h:Blk k w g t l) (hb:Below w.heap.size w w'):Blk k w' g t l:=(hb.block g h.lt).trans h
theorem Blk.kp {tt:Nat→Prop} (h:Blk k w g t l) (hk:Kp tt w w') (ht:¬ tt g):Blk k w' g t l:=(hk.block g h.lt ht).trans h
theorem Blk.far (h:Blk k w g t l) {p:Addr} (hp:g≠p.block) (u:Value):Blk k (w.setCell p u) g t l:=(Below.heap_setCell w p u g hp).trans h
theorem Blk.set_ (h:Blk k w g t l) (i v:Nat):Blk k (w.setCell ⟨g,i,none⟩ (.int k (v:Int))) g t (l.set i v):=by
  unfold Blk at h ⊢
  rw [nI_set,vs,List.map_set,←vs]
  simp [World.setCell,Array.getElem?_modify,h]
theorem Blk.li (h:Blk k w g t l) {off n c:Nat} (hn:off+n≤l.length) (hc:n≤c):LO k (· = g) w (.slice (some ⟨g,off,none⟩) n c) ((l.drop off).take n):=by
  have hl:((l.drop off).take n).length=n:=by rw [List.length_take,List.length_drop]; omega
  refine .inr ⟨g,off,c,by rw [nI_len,hl],by rw [nI_len,hl]; exact hc,rfl,h.lt,fun j v hj=>?_⟩
  have hjn:j < n:=by have:=(List.getElem?_eq_some_iff.1 hj).1; rw [nI_len,hl] at this; exact this
  rw [h.cell (by omega),←getD_drop',←getD_take' hjn]
  rw [nI_get (by omega)] at hj
  injection hj with hj
  rw [←hj]
theorem Blk.li0 (h:Blk k w g t l) {n c:Nat} (hn:l.length=n) (hc:n≤c):LO k (· = g) w (.slice (some ⟨g,0,none⟩) n c) l:=by
  have:=h.li (off:=0) (n:=n) (c:=c) (by omega) hc
  rwa [List.drop_zero,List.take_of_length_le (by omega)] at this
theorem Blk.of_own {base n:Nat} (h:w.ownsRow base t 1 (.slice (some ⟨g,0,none⟩) n n) n (vs k (nI l))):Blk k w g t l:=by
  rcases h.2 with ⟨h0,_⟩ | ⟨g',cap,cur,h1,h2,h3,h4,h5,h6,h7⟩
  · cases h0
  · injection h1 with h1 _ h9
    injection h1 with h1
    have e:g=g':=by injection h1
    subst e h9
    have h8:cur=(vs k (nI l)).toArray:=by
      apply Array.toList_inj.1
      rw [←h7]
      exact (List.take_of_length_le (by simp; omega)).symm
    unfold Blk
    rw [h3,h8]
end
theorem made_vs (k:IntKind) (n:Nat):(madeCells (Value.int k 0).cells (n*1)).toList=vs k (nI (List.replicate n 0)):=by
  rw [Nat.mul_one,nI_zeros]
  simp only [madeCells,vs,List.map_replicate]
  rw [List.eq_replicate_iff]
  refine ⟨by simp,fun b hb=>?_⟩
  simp only [Array.toList_map,List.mem_map] at hb
  obtain ⟨x,_,rfl⟩:=hb
  show (#[Value.int k 0]:Array Value)[x % 1]! = _
  rw [Nat.mod_one]
  rfl
/-- make([]T, n): a block of zeros of the call's own, at the heap's end. -/
theorem wpList_make_blk {P:Program} (w:World) {ops:Array Oper} {rest:List Oper} {o:Oper} {a:Act} {Q:Exit→Act→World→Prop}
    (hg:o.guard=none) (l c:Operand) (t:TypeId) (hop:o.op=Op.makeSlice t l c)
    (e:TypeId) (i:TypeInfo) (k:IntKind) (bytes:Nat) (h1:P.underlying t=some (.slice e)) (h2:P.info? e=some i) (h3:i.zero=some (.int k 0)) (h4:i.size=1) (h5:i.bytes=bytes)
    (n:Nat) (L:Int) (hl:a.eval l=.int .i64 L) (hc:a.eval c=.int .i64 L) (hL:L=(n:Int)) (hb8:bytes≤8) (hn:n≤1000000)
    (hK:∀ w',Blk k w' w.heap.size e (List.replicate n 0)→Below w.heap.size w w'→wpList P ops Q rest (a.put o.dst (.slice (some ⟨w.heap.size,0,none⟩) n n)) w') :
    wpList P ops Q (o :: rest) a w:=by
  refine wpList_make_full w hg l c t hop w.heap.size e i (.int k 0) 1 h1 h2 h3 h4 .i64 .i64 _ _ n hl hc hL hL ?_ (by unfold maxLen; omega) (Nat.le_refl _) ?_
  · rw [h5]
    have:=Nat.mul_le_mul hb8 hn
    omega
  · intro w' hown hgrow
    refine hK w' ?_ ((Below.refl _ w).grown hgrow (Nat.le_refl _) (fun g h=>by cases h))
    rw [made_vs] at hown
    exact Blk.of_own hown
/-- A block by a literal. -/
theorem Blk.lit (w:World) (k:IntKind) (t:TypeId) (l:List Nat):Blk k (w.alloc (.cells (vs k (nI l)).toArray t)) w.heap.size t l:=heap_alloc_new w _
end Go.Proofs.YtdgicnhadecldaaGreat

namespace Go.Proofs.YtdgicnhadecldaaGreat
set_option maxRecDepth 100000
set_option maxHeartbeats 12800000

theorem set_getD_ne {l:List Nat} {i j v:Nat} (h:i≠j):(l.set i v).getD j 0=l.getD j 0:=by
  rw [List.getD_eq_getElem?_getD,List.getElem?_set_ne h,←List.getD_eq_getElem?_getD]
theorem set_getD_eq {l:List Nat} {i v:Nat} (h:i < l.length):(l.set i v).getD i 0=v:=by
  rw [List.getD_eq_getElem?_getD,List.getElem?_set_self h]; rfl
/-- Behind i rows. -/
structure MulInv (B:Nat) (la lb:List Nat) (i:Nat) (o:List Nat):Prop where
  len:o.length=la.length+lb.length
  dig:Dig B o
  val:val B o=val B (la.take i)*val B lb
  zero:∀ j,i+lb.length≤j→o.getD j 0=0
/-- Inside row i, behind k digits, with a carry. -/
structure RowInv (B:Nat) (la lb:List Nat) (i k c:Nat) (o:List Nat):Prop where
  len:o.length=la.length+lb.length
  dig:Dig B o
  carry:c < B
  val:val B o+B ^ (i+k)*c=val B (la.take i)*val B lb+B ^ i*la.getD i 0*val B (lb.take k)
  zero:∀ j,i+lb.length≤j→o.getD j 0=0
section
variable {B:Nat} {la lb o:List Nat} {i k c:Nat}
theorem MulInv.start (hB:0 < B) (la lb:List Nat):MulInv B la lb 0 (List.replicate (la.length+lb.length) 0) :=
  ⟨by simp,dig_zeros hB _,by rw [val_zeros]; simp [Proofs.YtdgicnhadecldaaGreat.val],fun j _=>by
    rw [List.getD_eq_getElem?_getD,List.getElem?_replicate]; split <;> rfl⟩
theorem MulInv.row (hB:0 < B) (h:MulInv B la lb i o):RowInv B la lb i 0 0 o :=
  ⟨h.len,h.dig,hB,by rw [h.val]; simp [Proofs.YtdgicnhadecldaaGreat.val],h.zero⟩
theorem RowInv.step (hB:0 < B) (ha:Dig B la) (hb:Dig B lb) (h:RowInv B la lb i k c o) (hi:i < la.length) (hk:k < lb.length) :
    RowInv B la lb i (k+1) ((o.getD (i+k) 0+la.getD i 0*lb.getD k 0+c) / B) (o.set (i+k) ((o.getD (i+k) 0+la.getD i 0*lb.getD k 0+c) % B)):=by
  refine ⟨by rw [List.length_set]; exact h.len,dig_set h.dig _ _ (Nat.mod_lt _ hB),carry_lt (dig_getD hB h.dig _) (dig_getD hB ha _) (dig_getD hB hb _) h.carry,?_,fun j hj=>?_⟩
  · have:=mul_step (x:=la.getD i 0) (y:=lb.getD k 0) (by rw [h.len]; omega) h.val
    rw [←Nat.add_assoc,this,val_take_succ,Nat.mul_add,Nat.add_assoc]
  · rw [set_getD_ne (by omega)]
    exact h.zero j hj
theorem RowInv.done (h:RowInv B la lb i lb.length c o) (hi:i < la.length):MulInv B la lb (i+1) (o.set (i+lb.length) c):=by
  have hz:=h.zero (i+lb.length) (Nat.le_refl _)
  refine ⟨by rw [List.length_set]; exact h.len,dig_set h.dig _ _ h.carry,?_,fun j hj=>?_⟩
  · have h1:=val_set (B:=B) (l:=o) (j:=i+lb.length) (by rw [h.len]; omega) c
    rw [hz,Nat.mul_zero,Nat.add_zero] at h1
    rw [h1,h.val,val_take_succ,Nat.add_mul,List.take_length]
  · rw [set_getD_ne (by omega)]
    exact h.zero j (by omega)
theorem MulInv.all (h:MulInv B la lb la.length o):Proofs.YtdgicnhadecldaaGreat.val B o=Proofs.YtdgicnhadecldaaGreat.val B la*Proofs.YtdgicnhadecldaaGreat.val B lb:=by
  rw [h.val,List.take_length]
end
end Go.Proofs.YtdgicnhadecldaaGreat

namespace Go.Proofs.YtdgicnhadecldaaGreat
set_option maxRecDepth 100000
set_option maxHeartbeats 12800000

section
variable {B:Nat}
/-- One step of a product by a word. -/
theorem mulc_step {r:List Nat} {k q X Y x y f:Nat} (hr:r.length=k) (h:val B r+B ^ k*q=X*f+Y) :
    val B (r ++ [(x*f+y+q) % B])+B ^ (k+1)*((x*f+y+q) / B)=(X+B ^ k*x)*f+(Y+B ^ k*y):=by
  rw [plus_step hr h,Nat.add_mul,Nat.mul_assoc]
theorem mulc_lt {x y f q:Nat} (hx:x < B) (hy:y < B) (hf:f < B) (hq:q < B):(x*f+y+q) / B < B:=by
  have:=carry_lt hy hx hf hq
  rwa [Nat.add_comm y] at this
/-- In place: the next digit is written behind r. -/
theorem set_mid (P r S:List Nat) (x d:Nat) {i:Nat} (hi:i=P.length+r.length):(P ++ (r ++ (x :: S))).set i d=P ++ ((r ++ [d]) ++ S):=by
  subst hi
  rw [List.set_append_right _ _ (by omega),List.set_append_right _ _ (by omega)]
  simp
theorem getD_mid (P r S:List Nat) (x:Nat) {i:Nat} (hi:i=P.length+r.length):(P ++ (r ++ (x :: S))).getD i 0=x:=by
  subst hi
  rw [List.getD_eq_getElem?_getD,List.getElem?_append_right (by omega),List.getElem?_append_right (by omega)]
  simp
theorem set_at (r S:List Nat) (x d:Nat) {i:Nat} (hi:r.length=i):(r ++ (x :: S)).set i d=(r ++ [d]) ++ S:=by
  simpa using set_mid [] r S x d (i:=i) (by simpa using hi.symm)
theorem getD_at (r S:List Nat) (x:Nat) {i:Nat} (hi:r.length=i):(r ++ (x :: S)).getD i 0=x:=by
  simpa using getD_mid [] r S x (i:=i) (by simpa using hi.symm)
theorem drop_cons {l:List Nat} {k:Nat} (h:k < l.length):l.drop k=l.getD k 0 :: l.drop (k+1):=by
  rw [List.drop_eq_getElem_cons h,List.getD_eq_getElem?_getD,List.getElem?_eq_getElem h]; rfl
/-- A difference is done: nothing is borrowed at the end. -/
theorem minus_done {r la lb:List Nat} {q n:Nat} (hr:r.length=n) (hd:Dig B r) (hB:0 < B) (hda:Dig B la) (hla:la.length=n) (hle:val B lb≤val B la)
    (h:val B r+val B (lb.take n)=val B (la.take n)+B ^ n*q):val B r=val B la - val B lb:=by
  have e2:=val_take_add (B:=B) lb n
  have e3:=val_lt hB hda
  have e4:=val_lt hB hd
  rw [hla] at e3
  rw [hr] at e4
  rw [val_take_all (l:=la) (by omega)] at h
  have e6:val B (lb.drop n)=0:=by
    rcases Nat.eq_zero_or_pos (val B (lb.drop n)) with e | e
    · exact e
    · have:=Nat.mul_le_mul_left (B ^ n) e
      omega
  rw [e6,Nat.mul_zero] at e2
  rcases Nat.eq_zero_or_pos q with e | e
  · subst e; omega
  · have:=Nat.mul_le_mul_left (B ^ n) e
    omega
/-- A sum, or a product by a word, is done: no carry is left where the value fits. -/
theorem carry_done {r:List Nat} {q n V:Nat} (_hr:r.length=n) (hB:0 < B) (hV:V < B ^ n) (h:val B r+B ^ n*q=V):q=0∧val B r=V:=by
  rcases Nat.eq_zero_or_pos q with e | e
  · subst e; exact ⟨rfl,by omega⟩
  · have:=Nat.mul_le_mul_left (B ^ n) e
    have:=Nat.pow_pos (n:=n) hB
    omega
theorem sum_fits (hB:2≤B) {la lb:List Nat} (ha:Dig B la) (hb:Dig B lb):val B la+val B lb < B ^ (max la.length lb.length+1):=by
  have h1:=val_lt (by omega) ha
  have h2:=val_lt (by omega) hb
  have h3:B ^ la.length≤B ^ max la.length lb.length:=Nat.pow_le_pow_right (by omega) (by omega)
  have h4:B ^ lb.length≤B ^ max la.length lb.length:=Nat.pow_le_pow_right (by omega) (by omega)
  have h5:2*B ^ max la.length lb.length≤B ^ (max la.length lb.length+1):=by
    rw [Nat.pow_succ,Nat.mul_comm]; exact Nat.mul_le_mul_left _ hB
  omega
theorem times_fits {la:List Nat} {f m:Nat} (ha:Dig B la) (hf:f < B) (hm:m < B):val B la*f+m < B ^ (la.length+1):=by
  have h1:=val_lt (by omega) ha
  obtain ⟨b,rfl⟩:∃ b,B=b+1:=⟨B - 1,by omega⟩
  have h4:=Nat.mul_le_mul_right (b+1) h1
  have h5:val (b+1) la*f≤val (b+1) la*b:=Nat.mul_le_mul_left _ (by omega)
  rw [Nat.pow_succ]
  rw [Nat.succ_mul,Nat.mul_add,Nat.mul_one] at h4
  omega
end
end Go.Proofs.YtdgicnhadecldaaGreat

namespace Go.Proofs.YtdgicnhadecldaaGreat
set_option maxRecDepth 100000
set_option maxHeartbeats 12800000

/-- The guess is not less than the digit. -/
theorem guess_ge {B m q:Nat} {pl bl:List Nat} (hB:2≤B) (hp:Dig B pl) (hpl:pl.length=m+2) (hbl:bl.length=m+1) (ht:0 < bl.getD m 0) (h:q*val B bl≤val B pl):q≤(pl.getD m 0+B*pl.getD (m+1) 0) / bl.getD m 0:=by
  have e1:=val_take_add (B:=B) pl m
  have e2:=val_take_add (B:=B) bl m
  have hlow:=val_lt (B:=B) (by omega) (dig_take hp m)
  rw [List.length_take,Nat.min_eq_left (by omega)] at hlow
  rw [val_drop,val_drop,List.drop_of_length_le (by omega)] at e1
  rw [val_drop,List.drop_of_length_le (by omega)] at e2
  simp only [val,Nat.mul_zero,Nat.add_zero] at e1 e2
  generalize pl.getD m 0+B*pl.getD (m+1) 0=H at e1 ⊢
  generalize bl.getD m 0=t at e2 ht ⊢
  rw [Nat.le_div_iff_mul_le ht]
  have hP:0 < B ^ m:=Nat.pow_pos (by omega)
  have h2:q*(B ^ m*t)≤q*val B bl:=Nat.mul_le_mul_left q (by omega)
  have h3:B ^ m*(q*t) < B ^ m*(H+1):=by
    rw [Nat.mul_left_comm,Nat.mul_add,Nat.mul_one]; omega
  have:=Nat.lt_of_mul_lt_mul_left h3
  omega
theorem digit_lt {B b R x:Nat} (hR:R < b) (hx:x < B):x+B*R < B*b:=by
  have:=Nat.mul_le_mul_left B hR
  rw [Nat.mul_succ] at this
  omega
/-- Behind the digits from j on: x is what is left and the quotient's digits so far times b. -/
structure DivInv (B x b m n nq j:Nat) (r oq:List Nat):Prop where
  rl:r.length=n
  ql:oq.length=nq
  rd:Dig B r
  qd:Dig B oq
  lt:val B (r.drop j) < b
  eq:x=val B r+B ^ j*(val B (oq.drop j)*b)
section
variable {B x b m n nq j:Nat} {r oq:List Nat}
theorem DivInv.start (hB:2≤B) (hr:r.length=n) (hd:Dig B r) (hv:val B r=x) (hb:x < B ^ nq*b):DivInv B x b m n nq nq r (List.replicate nq 0):=by
  refine ⟨hr,by simp,hd,dig_zeros (by omega) _,?_,?_⟩
  · have e:=val_take_add (B:=B) r nq
    rw [hv] at e
    have h:B ^ nq*val B (r.drop nq) < B ^ nq*b:=by omega
    exact Nat.lt_of_mul_lt_mul_left h
  · rw [List.drop_of_length_le (by simp),hv]; simp [val]
/-- The part that the digit at j is for: m + 2 digits, and zeros above. -/
theorem DivInv.part (hB:2≤B) (h:DivInv B x b m n nq (j+1) r oq) (hb:b < B ^ (m+1)) (hj:j+(m+2)≤n) :
    ∃ P seg T,r=P ++ (seg ++ T)∧P.length=j∧seg.length=m+2∧Dig B P∧Dig B seg∧Dig B T∧val B T=0∧val B seg < B*b∧x=val B P+B ^ j*(val B seg+B*(val B (oq.drop (j+1))*b)):=by
  have hl1:(r.take j).length=j:=by rw [List.length_take,h.rl]; omega
  have hl2:((r.drop j).take (m+2)).length=m+2:=by rw [List.length_take,List.length_drop,h.rl]; omega
  have ev:=val_take_add (B:=B) (r.drop j) (m+2)
  have ed:=val_drop (B:=B) r j
  have hdig:=dig_getD (B:=B) (by omega) h.rd j
  have hlt:=digit_lt (B:=B) h.lt hdig
  rw [←ed] at hlt
  have hT:val B ((r.drop j).drop (m+2))=0:=by
    rcases Nat.eq_zero_or_pos (val B ((r.drop j).drop (m+2))) with e | e
    · exact e
    · have h1:=Nat.mul_le_mul_left (B ^ (m+2)) e
      have h2:B*b < B*B ^ (m+1):=Nat.mul_lt_mul_of_pos_left hb (by omega)
      rw [show m+2=(m+1)+1 from rfl,Nat.pow_succ,Nat.mul_comm (B ^ (m+1)) B] at h1 ev
      omega
  rw [hT,Nat.mul_zero,Nat.add_zero] at ev
  refine ⟨r.take j,(r.drop j).take (m+2),(r.drop j).drop (m+2),by rw [List.take_append_drop,List.take_append_drop],hl1,hl2,dig_take h.rd j,dig_take (dig_drop h.rd j) _,dig_drop (dig_drop h.rd j) _,hT,by rw [←ev]; exact hlt,?_⟩
  have e1:=val_take_add (B:=B) r j
  rw [←ev]
  have e2:=h.eq
  rw [Nat.pow_succ] at e2
  rw [Nat.mul_add,←Nat.add_assoc,←e1,←Nat.mul_assoc (B ^ j) B]
  exact e2
theorem DivInv.next (h:DivInv B x b m n nq (j+1) r oq) (hb0:0 < b) {P seg T s':List Nat} {q:Nat} (hr:r=P ++ (seg ++ T)) (hP:P.length=j) (hs:seg.length=m+2) (hs':s'.length=m+2) (hdP:Dig B P) (hdT:Dig B T) (hds:Dig B s') (hT:val B T=0)
    (hq:q < B) (hqd:q=val B seg / b) (hv:val B s'=val B seg - b*q) (hx:x=val B P+B ^ j*(val B seg+B*(val B (oq.drop (j+1))*b))) (hj:j < nq):DivInv B x b m n nq j (P ++ (s' ++ T)) (oq.set j q):=by
  have hle:b*q≤val B seg:=by rw [hqd]; exact Nat.mul_div_le _ _
  have hmod:val B seg - b*q < b:=by
    have:=Nat.div_add_mod (val B seg) b
    have:=Nat.mod_lt (val B seg) hb0
    rw [←hqd] at *
    omega
  have hdr:(P ++ (s' ++ T)).drop j=s' ++ T:=by rw [←hP,List.drop_left]
  have hv2:val B (s' ++ T)=val B s':=by rw [val_append,hT]; simp
  refine ⟨?_,by rw [List.length_set]; exact h.ql,dig_append.2 ⟨hdP,dig_append.2 ⟨hds,hdT⟩⟩,dig_set h.qd _ _ hq,?_,?_⟩
  · have:=h.rl
    rw [hr,List.length_append,List.length_append,hs] at this
    rw [List.length_append,List.length_append,hs']
    exact this
  · rw [hdr,hv2,hv]; exact hmod
  · rw [val_append,hP,hv2,hv,val_drop (oq.set j q),List.drop_set_of_lt (by omega),set_getD_eq (by rw [h.ql]; exact hj),hx,Nat.add_assoc]
    congr 1
    rw [←Nat.mul_add]
    congr 1
    rw [Nat.add_mul,Nat.mul_assoc,Nat.mul_comm q b]
    omega
theorem DivInv.done (h:DivInv B x b m n nq 0 r oq):x=val B r+val B oq*b∧val B r < b:=by
  have h1:=h.eq
  have h2:=h.lt
  rw [List.drop_zero] at h1 h2
  rw [Nat.pow_zero,Nat.one_mul] at h1
  exact ⟨h1,h2⟩
end
theorem times_top {B m y t f:Nat} {l:List Nat} (hB:0 < B) (hd:Dig B l) (hl:l.length=m+1) (hy:val B l=y) (ht:l.getD m 0=t) (hf:(t+1)*f≤B) (hf0:0 < f):y*f < B ^ (m+1):=by
  have e:=val_take_add (B:=B) l m
  have hlow:=val_lt hB (dig_take hd m)
  rw [List.length_take,Nat.min_eq_left (by omega)] at hlow
  rw [val_drop,List.drop_of_length_le (by omega),ht,hy] at e
  simp only [val,Nat.mul_zero,Nat.add_zero] at e
  have h1:y < B ^ m*(t+1):=by rw [Nat.mul_add,Nat.mul_one]; omega
  have h2:=Nat.mul_lt_mul_of_pos_right h1 hf0
  have h3:=Nat.mul_le_mul_left (B ^ m) hf
  rw [←Nat.mul_assoc] at h3
  rw [Nat.pow_succ]
  omega
/-- Both numbers times the same have the same quotient. -/
theorem div_scaled {x y f q r:Nat} (hf:0 < f) (hy:0 < y) (h:x*f=r+q*(y*f)) (hr:r < y*f):x / y=q∧x % y=r / f:=by
  have e:x*f=r+q*y*f:=by rw [h,Nat.mul_assoc]
  obtain ⟨s,hs⟩:∃ s,r=s*f:=by
    have h1:f∣x*f:=Nat.dvd_mul_left f x
    have h2:f∣q*y*f:=Nat.dvd_mul_left f _
    rw [e] at h1
    obtain ⟨s,hs⟩:=(Nat.dvd_add_left h2).1 h1
    exact ⟨s,by rw [hs,Nat.mul_comm]⟩
  subst hs
  have hx:x=s+q*y:=by
    have:x*f=(s+q*y)*f:=by rw [e,Nat.add_mul]
    exact Nat.eq_of_mul_eq_mul_right hf this
  have hsy:s < y:=Nat.lt_of_mul_lt_mul_right hr
  rw [hx,Nat.mul_div_cancel _ hf,Nat.add_mul_div_right _ _ hy,Nat.div_eq_of_lt hsy,Nat.zero_add,Nat.add_mul_mod_self_right,Nat.mod_eq_of_lt hsy]
  exact ⟨rfl,rfl⟩
end Go.Proofs.YtdgicnhadecldaaGreat

namespace Go.Proofs.YtdgicnhadecldaaGreat
set_option maxRecDepth 100000
set_option maxHeartbeats 12800000
def sg (odd:Bool):Int:=if odd then -1 else 1
theorem lehmer_core {S r n x y p1 p2 q1 q2:Int} (aA:0≤x) (hx:x < S) (hy0:0≤y) (hy:y < S) (_hp1:0≤p1) (hp2:0≤p2) (hq1:0≤q1) (hq2:0≤q2) (h1:q2≤r) (h2:p1+p2≤n - r) (h3:1≤n - r) :
    0≤r*S+p2*x - q2*y∧r*S+p2*x - q2*y < n*S+q1*y - p1*x:=by
  have a1:q2*y≤q2*S:=Int.mul_le_mul_of_nonneg_left (Int.le_of_lt hy) hq2
  have a2:q2*S≤r*S:=Int.mul_le_mul_of_nonneg_right h1 (by omega)
  have a3:0≤p2*x:=Int.mul_nonneg hp2 aA
  have a4:(p1+p2)*x≤(n - r)*x:=Int.mul_le_mul_of_nonneg_right h2 aA
  have a5:(n - r)*x < (n - r)*S:=Int.mul_lt_mul_of_pos_left hx (by omega)
  have a6:0≤q1*y:=Int.mul_nonneg hq1 hy0
  have a7:0≤q2*y:=Int.mul_nonneg hq2 hy0
  simp only [Int.add_mul,Int.sub_mul] at a4 a5
  exact ⟨by omega,by omega⟩

structure CS (a b m0 n0 m n u0 v0 u1 v1:Nat) (odd:Bool) (A B:Nat):Prop where
  f1:(m:Int)=sg odd*(u0*m0 - v0*n0)
  f2:(n:Int)=sg odd*(v1*n0 - u1*m0)
  f3:(A:Int)=sg odd*(u0*a - v0*b)
  f4:(B:Int)=sg odd*(v1*b - u1*a)
  f5:m0=v1*m+v0*n
  f6:n0=u1*m+u0*n
  f7:n≤m
  f8:u1≤v1
  f9:(u0≤v0∧B < A∧B < b∧v0 < 4294967296∧0 < v0+u0)∨(u0=1∧v0=0∧u1=0∧v1=1∧odd=false)
  f10:Nat.gcd A B=Nat.gcd a b
  f11:B≤A
  f12:v1 < 4294967296∧A≤a∧B≤b
  f13:u0=1∧v0=0→u1=0

theorem CS.start {a b m0 n0:Nat} (h:n0≤m0) (h':b≤a):CS a b m0 n0 m0 n0 1 0 0 1 false a b:=by
  constructor <;> first | assumption | rfl | omega | (simp [sg]; done) | (simp [sg]; omega)
theorem sg_not (o:Bool):sg (!o) = - sg o:=by cases o <;> rfl

theorem CS.after_le {a b m0 n0 m n u0 v0 u1 v1 A B:Nat} {odd:Bool} (h:CS a b m0 n0 m n u0 v0 u1 v1 odd A B) (_hn:0 < n) :
    (v0+m / n*v1)*n+v1*(m % n)=m0∧(u0+m / n*u1)*n+u1*(m % n)=n0:=by
  have e:=Nat.div_add_mod m n
  have h5:=h.f5
  have h6:=h.f6
  generalize m / n=q at *
  generalize m % n=r at *
  subst e
  constructor
  · rw [h5]; grind
  · rw [h6]; grind
theorem CS.after_lt {a b m0 n0 m n u0 v0 u1 v1 A B:Nat} {odd:Bool} (h:CS a b m0 n0 m n u0 v0 u1 v1 odd A B) (hn:0 < n) :
    v0+m / n*v1≤m0∧u0+m / n*u1≤n0∧m / n*v1≤m0∧m / n*u1≤n0:=by
  obtain ⟨h1,h2⟩:=h.after_le hn
  have h3:v0+m / n*v1≤(v0+m / n*v1)*n:=Nat.le_mul_of_pos_right _ hn
  have h4:u0+m / n*u1≤(u0+m / n*u1)*n:=Nat.le_mul_of_pos_right _ hn
  omega

theorem CS.step {a b m0 n0 m n u0 v0 u1 v1 A B S a0 b0:Nat} {odd:Bool} (h:CS a b m0 n0 m n u0 v0 u1 v1 odd A B) (hm0:m0 < 18446744073709551616)
    (ha:a=m0*S+a0) (hb:b=n0*S+b0) (ha0:a0 < S) (hb0:b0 < S) (hn:0 < n)
    (hr:v0+m / n*v1≤m % n) (hd:v1+(v0+m / n*v1)≤n - m % n) :
    CS a b m0 n0 n (m % n) u1 v1 (u0+m / n*u1) (v0+m / n*v1) (!odd) B (A % B)∧0 < B:=by
  have hal:=h.after_le hn
  have hrn:=Nat.mod_lt m hn
  have hq:1≤m / n:=(Nat.one_le_div_iff hn).2 h.f7
  have e:=Nat.div_add_mod m n
  obtain ⟨f1,f2,f3,f4,f5,f6,f7,f8,f9,f10,f11,f12,f13⟩:=h
  generalize m / n=q at *
  generalize m % n=r at *
  have hu:u0+q*u1≤v0+q*v1:=by
    have:q*u1≤q*v1:=Nat.mul_le_mul_left q f8
    rcases f9 with ⟨h1,_⟩ | ⟨rfl,rfl,rfl,rfl,_⟩ <;> omega
  have hv2:v0+q*v1 < 4294967296:=by
    rcases Nat.lt_or_ge (v0+q*v1) 4294967296 with g | g
    · exact g
    · have:4294967296*4294967296≤(v0+q*v1)*n:=Nat.mul_le_mul g (by omega)
      omega
  obtain ⟨u2,hu2⟩:∃ u2,u0+q*u1=u2:=⟨_,rfl⟩
  obtain ⟨v2,hv2'⟩:∃ v2,v0+q*v1=v2:=⟨_,rfl⟩
  rw [hv2'] at hr hd hal hu hv2
  rw [hu2] at hal hu
  rw [hu2,hv2']
  -- the next rest
  have key:0≤(A:Int) - q*B∧(A:Int) - q*B < B:=by
    have hmm:(m:Int)=n*q+r:=by rw [←e]; push_cast; rfl
    have e2:(u2:Int)=u0+q*u1:=by rw [←hu2]; push_cast; rfl
    have e3:(v2:Int)=v0+q*v1:=by rw [←hv2']; push_cast; rfl
    have ea:(a:Int)=m0*S+a0:=by rw [ha]; push_cast; rfl
    have eb:(b:Int)=n0*S+b0:=by rw [hb]; push_cast; rfl
    have er:(r:Int)=m - n*q:=by omega
    cases odd with
    | false =>
      simp only [sg,Bool.false_eq_true,if_false,Int.one_mul] at f1 f2 f3 f4
      have k:=lehmer_core (S:=S) (r:=r) (n:=n) (x:=a0) (y:=b0) (p1:=u1) (p2:=u2) (q1:=v1) (q2:=v2) (by omega) (by omega) (by omega) (by omega) (by omega) (by omega) (by omega) (by omega) (by omega) (by omega) (by omega)
      have g1:(A:Int) - q*B=r*S+u2*a0 - v2*b0:=by rw [f3,f4,er,f1,f2,e2,e3,ea,eb]; grind
      have g2:(B:Int)=n*S+v1*b0 - u1*a0:=by rw [f4,f2,ea,eb]; grind
      rw [g1,g2]; exact k
    | true =>
      simp only [sg,if_true] at f1 f2 f3 f4
      have k:=lehmer_core (S:=S) (r:=r) (n:=n) (x:=b0) (y:=a0) (p1:=v1) (p2:=v2) (q1:=u1) (q2:=u2) (by omega) (by omega) (by omega) (by omega) (by omega) (by omega) (by omega) (by omega) (by omega) (by omega) (by omega)
      have g1:(A:Int) - q*B=r*S+v2*b0 - u2*a0:=by rw [f3,f4,er,f1,f2,e2,e3,ea,eb]; grind
      have g2:(B:Int)=n*S+u1*a0 - v1*b0:=by rw [f4,f2,ea,eb]; grind
      rw [g1,g2]; exact k
  have hB:0 < B:=by omega
  have hdiv:A / B=q∧A % B=A - q*B:=by
    have h1:q*B≤A:=by have:=key.1; omega
    have h2:A - q*B < B:=by have:=key.2; omega
    have h3:A=A - q*B+q*B:=by omega
    constructor
    · rw [h3,Nat.add_mul_div_right _ _ hB,Nat.div_eq_of_lt h2]; omega
    · conv=>lhs; rw [h3]
      rw [Nat.add_mul_mod_self_right,Nat.mod_eq_of_lt h2]
  have hm':A % B < B:=Nat.mod_lt _ hB
  have hAB:((A % B:Nat):Int)=A - q*B:=by rw [hdiv.2]; have:=key.1; omega
  refine ⟨⟨?_,?_,?_,?_,?_,?_,?_,?_,?_,?_,?_,?_,?_⟩,hB⟩
  · rw [f2,sg_not]; grind
  · have hmm:(r:Int)=m - n*q:=by rw [←e]; push_cast; omega
    rw [hmm,f1,f2,sg_not,←hu2,←hv2']; push_cast; grind
  · rw [f4,sg_not]; grind
  · rw [hAB,f3,f4,sg_not,←hu2,←hv2']; push_cast; grind
  · exact hal.1.symm
  · exact hal.2.symm
  · omega
  · exact hu
  · refine .inl ⟨f8,hm',by omega,f12.1,?_⟩
    rcases Nat.eq_zero_or_pos (v1+u1) with g | g
    · exfalso
      have e1:v1=0:=by omega
      have e2:u1=0:=by omega
      subst e1 e2
      simp at f4
      omega
    · exact g
  · rw [Nat.gcd_comm,←f10,Nat.gcd_comm A B,Nat.gcd_rec B A]
  · omega
  · exact ⟨hv2,by omega,by omega⟩
  · intro ⟨h1,h2⟩; omega
/-- What the loop hands back. -/
theorem CS.rows {a b m0 n0 m n u0 v0 u1 v1 A B:Nat} {odd:Bool} (h:CS a b m0 n0 m n u0 v0 u1 v1 odd A B) (hno:¬ (u0=1∧v0=0)) :
    B < b∧B < A∧A≤a∧Nat.gcd A B=Nat.gcd a b∧u0 < 4294967296∧v0 < 4294967296∧u1 < 4294967296∧v1 < 4294967296 ∧
    (odd=false→a*u0=A+b*v0∧b*v1=B+a*u1)∧(odd=true→b*v0=A+a*u0∧a*u1=B+b*v1):=by
  obtain ⟨f1,f2,f3,f4,f5,f6,f7,f8,f9,f10,f11,f12,f13⟩:=h
  rcases f9 with ⟨h1,h2,h3,h4,h5⟩ | ⟨h1,h2,_⟩
  · refine ⟨h3,h2,f12.2.1,f10,by omega,h4,by omega,f12.1,?_,?_⟩
    · rintro rfl
      simp only [sg,Bool.false_eq_true,if_false,Int.one_mul] at f3 f4
      constructor
      · apply Int.ofNat_inj.1; push_cast; rw [f3]; grind
      · apply Int.ofNat_inj.1; push_cast; rw [f4]; grind
    · rintro rfl
      simp only [sg,if_true] at f3 f4
      constructor
      · apply Int.ofNat_inj.1; push_cast; rw [f3]; grind
      · apply Int.ofNat_inj.1; push_cast; rw [f4]; grind
  · exact absurd ⟨h1,h2⟩ hno
end Go.Proofs.YtdgicnhadecldaaGreat
namespace Go.Proofs.YtdgicnhadecldaaGreat
set_option maxRecDepth 100000
set_option maxHeartbeats 12800000
open Go.RowKit

theorem ret_int {k:IntKind} {a b:Int} (h:a=b):Ending.returned (.int k a)=.returned (.int k b):=by rw [h]

/-- -1, 0 or 1. -/
def cmpN (a b:Nat):Int:=if a < b then -1 else if b < a then 1 else 0
theorem cmpN_lt {a b:Nat} (h:a < b):cmpN a b = -1:=by rw [cmpN,if_pos h]
theorem cmpN_gt {a b:Nat} (h:b < a):cmpN a b=1:=by rw [cmpN,if_neg (by omega),if_pos h]
theorem cmpN_eq (a:Nat):cmpN a a=0:=by rw [cmpN,if_neg (by omega),if_neg (by omega)]
theorem drawn {B:Nat} {a w:World} (h:Below B a w) (n:Nat):Below B a (w.drewN n):=⟨h.os,h.tape,h.output,h.size,h.block⟩
end Go.Proofs.YtdgicnhadecldaaGreat

namespace Go.Proofs.YtdgicnhadecldaaGreat
set_option maxRecDepth 100000
set_option maxHeartbeats 12800000
open Go.RowKit

def lenOf:Value→Nat
  | .slice _ n _=>n
  | _=>0
def sgn (neg:Bool) (v:Nat):Int:=if neg=true then -(v:Int) else (v:Int)
theorem sgn_abs (neg:Bool) (v:Nat):(sgn neg v).natAbs=v:=by unfold sgn; split <;> omega
theorem sgn_neg (neg:Bool) (v:Nat):(neg && decide (0 < v))=decide (sgn neg v < 0):=by
  unfold sgn
  cases neg
  · simp
  · by_cases h:0 < v
    · simp [h]
    · simp [h]
end Go.Proofs.YtdgicnhadecldaaGreat

namespace Go.Proofs.YtdgicnhadecldaaGreat
set_option maxRecDepth 100000
set_option maxHeartbeats 12800000
open Go.RowKit

def isI:Value→Bool
  | .int _ _=>true
  | _=>false
/-- Block b is just the two cells v0, v1, none frozen. -/
def P2 (t:TypeId) (w:World) (b:Nat) (v0 v1:Value):Prop:=w.heap[b]?=some (.cells #[v0,v1] t (0,0))
section
variable {t:TypeId} {w w':World} {b:Nat} {v0 v1:Value}
theorem P2.lt (h:P2 t w b v0 v1):b < w.heap.size:=(Array.getElem?_eq_some_iff.1 h).1
theorem P2.cells (h:P2 t w b v0 v1):w.cell? ⟨b,0,none⟩=some v0∧w.cell? ⟨b,1,none⟩=some v1:=by
  unfold P2 at h
  refine ⟨?_,?_⟩ <;> simp [World.cell?,h]
theorem P2.frozen (h:P2 t w b v0 v1) (i:Nat):w.frozen? ⟨b,i,none⟩=false:=by
  unfold P2 at h
  simp [World.frozen?,h]
theorem P2.new (h:P2 t w b v0 v1) (hb:Below w.heap.size w w'):P2 t w' b v0 v1:=(hb.block b h.lt).trans h
theorem P2.far (h:P2 t w b v0 v1) {p:Addr} (hp:b≠p.block) (u:Value):P2 t (w.setCell p u) b v0 v1:=(Below.heap_setCell w p u b hp).trans h
theorem P2.all (h:P2 t w b v0 v1) (u0 u1:Value):P2 t ((w.setCell ⟨b,0,none⟩ u0).setCell ⟨b,1,none⟩ u1) b u0 u1:=by
  unfold P2 at h ⊢
  simp [World.setCell,Array.getElem?_modify,h]
theorem P2.far2 (h:P2 t w b v0 v1) {g:Nat} (hg:b≠g) (u0 u1:Value):P2 t ((w.setCell ⟨g,0,none⟩ u0).setCell ⟨g,1,none⟩ u1) b v0 v1:=(h.far (p:=⟨g,0,none⟩) hg u0).far (p:=⟨g,1,none⟩) hg u1
theorem P2.alloc (h:P2 t w b v0 v1) (o:Obj):P2 t (w.alloc o) b v0 v1:=(Below.heap_alloc w o b h.lt).trans h
theorem P2.lit (w:World) (t:TypeId) (v0 v1:Value):P2 t (w.alloc (.cells #[v0,v1] t)) w.heap.size v0 v1:=heap_alloc_new w _
theorem P2.no_int (h:P2 t w b v0 v1) (h0:isI v0=false) (h1:isI v1=false) (o:Nat) (k:IntKind) (x:Int):w.cell? ⟨b,o,none⟩≠some (.int k x):=by
  unfold P2 at h
  rw [cell_of_row w b o _ t (0,0) h]
  match o with
  | 0=>intro e; injection e with e; subst e; cases h0
  | 1=>intro e; injection e with e; subst e; cases h1
  | o+2=>simp
end
/-- Digits lie on where only a block has turned that holds no such integer. -/
theorem LO.apart {k:IntKind} {ok:Nat→Prop} {w w':World} {v:Value} {l:List Nat} {tt:Nat→Prop} (h:LO k ok w v l) (hk:Kp tt w w') (hn:∀ g,tt g→g < w.heap.size→∀ o x,w.cell? ⟨g,o,none⟩≠some (.int k x)):LO k ok w' v l:=by
  rcases h with h | ⟨b,off,c,h1,h2,ho,h4,h5⟩
  · exact .inl h
  · refine .inr ⟨b,off,c,h1,h2,ho,Nat.lt_of_lt_of_le h4 hk.size,fun j v hj=>?_⟩
    have h6:=h5 j v hj
    refine (hk.cell (p:=⟨b,off+j,none⟩) h4 (fun ht=>?_)).trans h6
    exact hn b ht h4 _ _ h6
theorem LO.box {k:IntKind} {ok:Nat→Prop} {t:TypeId} {w:World} {v v0 v1:Value} {l:List Nat} {b:Nat} (h:LO k ok w v l) (hp:P2 t w b v0 v1) (h0:isI v0=false) (h1:isI v1=false) (u0 u1:Value):LO k ok ((w.setCell ⟨b,0,none⟩ u0).setCell ⟨b,1,none⟩ u1) v l :=
  h.apart (tt:=(· = b)) (((Kp.refl (· = b) w).setCell (p:=⟨b,0,none⟩) (fun _=>rfl) u0).setCell (p:=⟨b,1,none⟩) (fun _=>rfl) u1) (fun g e _ o x=>by subst e; exact hp.no_int h0 h1 o k x)
theorem below_box {w0 w:World} {B b:Nat} (h:Below B w0 w) (hb:B≤b) (u0 u1:Value):Below B w0 ((w.setCell ⟨b,0,none⟩ u0).setCell ⟨b,1,none⟩ u1) :=
  (h.setCell (p:=⟨b,0,none⟩) hb u0).setCell (p:=⟨b,1,none⟩) hb u1

/-- One box, and the result's. -/
def W2 (t:TypeId) (w:World) (a0 a1 z0 z1:Value):World:=(w.alloc (.cells #[a0,a1] t)).alloc (.cells #[z0,z1] t)
/-- Two boxes, and the result's. -/
def W3 (t:TypeId) (w:World) (a0 a1 b0 b1 z0 z1:Value):World:=((w.alloc (.cells #[a0,a1] t)).alloc (.cells #[b0,b1] t)).alloc (.cells #[z0,z1] t)
section
variable (t:TypeId) (w:World) (a0 a1 b0 b1 z0 z1:Value)
theorem W2_a:P2 t (W2 t w a0 a1 z0 z1) w.heap.size a0 a1:=(P2.lit w t a0 a1).alloc _
theorem W2_z:P2 t (W2 t w a0 a1 z0 z1) (w.heap.size+1) z0 z1:=by
  have:=P2.lit (w.alloc (.cells #[a0,a1] t)) t z0 z1
  rw [World.size_alloc] at this
  exact this
theorem W2_k:Below w.heap.size w (W2 t w a0 a1 z0 z1):=((Below.refl _ w).alloc (Nat.le_refl _) _).alloc (by simp) _
theorem W3_a:P2 t (W3 t w a0 a1 b0 b1 z0 z1) w.heap.size a0 a1:=((P2.lit w t a0 a1).alloc _).alloc _
theorem W3_b:P2 t (W3 t w a0 a1 b0 b1 z0 z1) (w.heap.size+1) b0 b1:=by
  have:=P2.lit (w.alloc (.cells #[a0,a1] t)) t b0 b1
  rw [World.size_alloc] at this
  exact this.alloc _
theorem W3_z:P2 t (W3 t w a0 a1 b0 b1 z0 z1) (w.heap.size+1+1) z0 z1:=by
  have:=P2.lit ((w.alloc (.cells #[a0,a1] t)).alloc (.cells #[b0,b1] t)) t z0 z1
  rw [World.size_alloc,World.size_alloc] at this
  exact this
theorem W3_k:Below w.heap.size w (W3 t w a0 a1 b0 b1 z0 z1):=(((Below.refl _ w).alloc (Nat.le_refl _) _).alloc (by simp) _).alloc (by simp; omega) _
end
end Go.Proofs.YtdgicnhadecldaaGreat

namespace Go.Proofs.YtdgicnhadecldaaGreat
set_option maxRecDepth 100000
set_option maxHeartbeats 12800000
open Go.RowKit

end Go.Proofs.YtdgicnhadecldaaGreat

namespace Go.Proofs.YtdgicnhadecldaaGreat
set_option maxRecDepth 100000
set_option maxHeartbeats 12800000
open Go.RowKit
attribute [local go_sem ↓] Go.wp_at_zero Go.wp_at_succ

theorem sgn_not (x:Int):sgn (!decide (x < 0)) x.natAbs = -x:=by
  unfold sgn
  by_cases h:x < 0
  · simp [h]; omega
  · simp [h]; omega
/-- -1, 0 or 1. -/
def cmpI (a b:Int):Int:=if a < b then -1 else if b < a then 1 else 0
theorem cmpI_np {a b:Int} (ha:a < 0) (hb:¬ b < 0):cmpI a b = -1:=by rw [cmpI,if_pos (by omega)]
theorem cmpI_pn {a b:Int} (ha:¬ a < 0) (hb:b < 0):cmpI a b=1:=by rw [cmpI,if_neg (by omega),if_pos (by omega)]
theorem cmpI_nn {a b:Int} (ha:a < 0) (hb:b < 0):cmpI a b=cmpN b.natAbs a.natAbs:=by
  unfold cmpI cmpN
  split <;> split <;> (try split) <;> (try split) <;> omega
theorem cmpI_pp {a b:Int} (ha:¬ a < 0) (hb:¬ b < 0):cmpI a b=cmpN a.natAbs b.natAbs:=by
  unfold cmpI cmpN
  split <;> split <;> (try split) <;> (try split) <;> omega
end Go.Proofs.YtdgicnhadecldaaGreat

namespace Go.Proofs.YtdgicnhadecldaaGreat
set_option maxRecDepth 100000
set_option maxHeartbeats 12800000
open Go.RowKit
attribute [local go_sem ↓] Go.wp_at_zero Go.wp_at_succ

theorem digs_len9 {B:Nat} (hB:2≤B) {l:List Nat} (h:Dig B l):(digs B (val B l)).length≤l.length:=digs_len_le hB (val_lt (by omega) h)
theorem cells4 {t:TypeId} {w:World} {b b':Nat} {v0 v1 u0 u1:Value} (h:P2 t w b v0 v1) (h':P2 t w b' u0 u1) :
    w.cell? ⟨b,0,none⟩=some v0∧w.cell? ⟨b,1,none⟩=some v1∧w.cell? ⟨b',0,none⟩=some u0∧w.cell? ⟨b',1,none⟩=some u1:=⟨h.cells.1,h.cells.2,h'.cells.1,h'.cells.2⟩
theorem add_same {x y:Int} {s:Bool} (hx:s=decide (x < 0)) (hy:s=decide (y < 0)):sgn s (x.natAbs+y.natAbs)=x+y:=by
  subst hx
  unfold sgn
  by_cases h:x < 0 <;> by_cases h':y < 0 <;> simp [h,h'] at hy ⊢ <;> omega
theorem add_gt {x y:Int} {s s':Bool} (hx:s=decide (x < 0)) (hy:s'=decide (y < 0)) (hne:s≠s') (h:y.natAbs≤x.natAbs):sgn s (x.natAbs - y.natAbs)=x+y:=by
  subst hx hy
  unfold sgn
  by_cases h1:x < 0 <;> by_cases h2:y < 0 <;> simp [h1,h2] at hne ⊢ <;> omega
theorem add_lt {x y:Int} {s s':Bool} (hx:s=decide (x < 0)) (hy:s'=decide (y < 0)) (hne:s≠s') (h:x.natAbs≤y.natAbs):sgn s' (y.natAbs - x.natAbs)=x+y:=by
  subst hx hy
  unfold sgn
  by_cases h1:x < 0 <;> by_cases h2:y < 0 <;> simp [h1,h2] at hne ⊢ <;> omega

end Go.Proofs.YtdgicnhadecldaaGreat

namespace Go.Proofs.YtdgicnhadecldaaGreat
set_option maxRecDepth 100000
set_option maxHeartbeats 12800000
open Go.RowKit
attribute [local go_sem ↓] Go.wp_at_zero Go.wp_at_succ

end Go.Proofs.YtdgicnhadecldaaGreat

namespace Go.Proofs.YtdgicnhadecldaaGreat
set_option maxRecDepth 100000
set_option maxHeartbeats 12800000
open Go.RowKit
attribute [local go_sem ↓] Go.wp_at_zero Go.wp_at_succ

theorem mul_sign {x y:Int} {s s':Bool} (hx:s=decide (x < 0)) (hy:s'=decide (y < 0)):sgn (s != s') (x.natAbs*y.natAbs)=x*y:=by
  subst hx hy
  have e:=Int.natAbs_mul x y
  rw [←e]
  unfold sgn
  by_cases h1:x < 0 <;> by_cases h2:y < 0
  · have:=Int.mul_pos_of_neg_of_neg h1 h2
    simp [h1,h2]; omega
  · have:=Int.mul_nonpos_of_nonpos_of_nonneg (show x≤0 by omega) (show 0≤y by omega)
    simp [h1,h2]; omega
  · have:=Int.mul_nonpos_of_nonneg_of_nonpos (show 0≤x by omega) (show y≤0 by omega)
    simp [h1,h2]; omega
  · have:=Int.mul_nonneg (show 0≤x by omega) (show 0≤y by omega)
    simp [h1,h2]; omega
end Go.Proofs.YtdgicnhadecldaaGreat

namespace Go.Proofs.YtdgicnhadecldaaGreat
set_option maxRecDepth 100000
set_option maxHeartbeats 12800000
open Go.RowKit
attribute [local go_sem ↓] Go.wp_at_zero Go.wp_at_succ

theorem sgn_false (v:Nat):sgn false v=(v:Int):=rfl
end Go.Proofs.YtdgicnhadecldaaGreat

namespace Go.Proofs.YtdgicnhadecldaaGreat
set_option maxRecDepth 100000
set_option maxHeartbeats 12800000
open Go.RowKit
attribute [local go_sem ↓] Go.wp_at_zero Go.wp_at_succ

/-- Four blocks: two boxes, and two results. -/
theorem W4_facts (t:TypeId) (w W:World) (a0 a1 b0 b1 z0 z1:Value) (hW:(((w.alloc (.cells #[a0,a1] t)).alloc (.cells #[b0,b1] t)).alloc (.cells #[z0,z1] t)).alloc (.cells #[z0,z1] t)=W) :
    P2 t W w.heap.size a0 a1∧P2 t W (w.heap.size+1) b0 b1∧P2 t W (w.heap.size+1+1) z0 z1∧P2 t W (w.heap.size+1+1+1) z0 z1∧Below w.heap.size w W∧W.heap.size=w.heap.size+4:=by
  subst hW
  refine ⟨(W3_a t w a0 a1 b0 b1 z0 z1).alloc _,(W3_b t w a0 a1 b0 b1 z0 z1).alloc _,(W3_z t w a0 a1 b0 b1 z0 z1).alloc _,?_,(W3_k t w a0 a1 b0 b1 z0 z1).alloc (W3_k t w a0 a1 b0 b1 z0 z1).size _,by simp⟩
  have:=P2.lit (W3 t w a0 a1 b0 b1 z0 z1) t z0 z1
  rw [show (W3 t w a0 a1 b0 b1 z0 z1).heap.size=w.heap.size+1+1+1 by simp [W3]] at this
  exact this
def WQ (w:World) (g g':Nat) (a b c d:Value):World:=(((w.setCell ⟨g,0,none⟩ a).setCell ⟨g,1,none⟩ b).setCell ⟨g',0,none⟩ c).setCell ⟨g',1,none⟩ d
theorem quo_sgn {x y:Int} {s s':Bool} (hx:s=decide (x < 0)) (hy:s'=decide (y < 0)) (q0:Nat):sgn (s != s') q0=(if (x < 0)↔(y < 0) then (q0:Int) else -(q0:Int)):=by
  subst hx hy
  unfold sgn
  by_cases h1:x < 0 <;> by_cases h2:y < 0 <;> simp [h1,h2]
theorem div_a {x y:Int} {s s':Bool} (hx:s=decide (x < 0)) (hy:s'=decide (y < 0)) (hy0:y≠0) (h:s=false∨x.natAbs % y.natAbs=0):sgn (s != s') (x.natAbs / y.natAbs)=x / y∧((x.natAbs % y.natAbs:Nat):Int)=x % y:=by
  have hm:=Nat.div_add_mod x.natAbs y.natAbs
  obtain ⟨h1,h2⟩:=div_of x y (x.natAbs / y.natAbs) (x.natAbs % y.natAbs) (by rw [Nat.mul_comm]; exact hm.symm) (Nat.mod_lt _ (by omega))
  have hn:¬ (x < 0∧x.natAbs % y.natAbs≠0):=by
    rintro ⟨g1,g2⟩
    rcases h with h | h
    · rw [hx] at h; simp at h; omega
    · exact g2 h
  rw [if_neg hn] at h1 h2
  rw [quo_sgn hx hy,h1,h2,Int.add_zero]
  exact ⟨rfl,rfl⟩
theorem div_b {x y:Int} {s s':Bool} (hx:s=decide (x < 0)) (hy:s'=decide (y < 0)) (hy0:y≠0) (hs:s=true) (h:x.natAbs % y.natAbs≠0):sgn (s != s') (x.natAbs / y.natAbs)+sgn (s != s') 1=x / y∧((y.natAbs - x.natAbs % y.natAbs:Nat):Int)=x % y:=by
  have hm:=Nat.div_add_mod x.natAbs y.natAbs
  have hlt:=Nat.mod_lt x.natAbs (show 0 < y.natAbs by omega)
  obtain ⟨h1,h2⟩:=div_of x y (x.natAbs / y.natAbs) (x.natAbs % y.natAbs) (by rw [Nat.mul_comm]; exact hm.symm) hlt
  have aA:x < 0:=by rw [hx] at hs; simpa using hs
  rw [if_pos ⟨aA,h⟩] at h2
  rw [quo_sgn hx hy,quo_sgn hx hy,h1,h2]
  constructor
  · by_cases h3:y < 0 <;> simp [aA,h3,h]
  · omega

end Go.Proofs.YtdgicnhadecldaaGreat
