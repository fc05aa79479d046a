/- A slice of integers that came in. -/
import Derived.Test.YtbgfmegepekapaaGreatB6
namespace Go.Proofs.YtbgfmegepekapaaGreat
set_option maxRecDepth 100000
set_option maxHeartbeats 12800000
open Go.RowKit
theorem src_of_rowJ {k:IntKind} {w:World} {a:Option Addr} {len cap:Nat} {zs:List Int}
  (h:(a=none∧len=0∧cap=0∧zs=[])∨∃ x,a=some x∧len≤cap∧cap≤maxLen∧zs.length=cap∧(∀ i,i < zs.length→w.cell? (x.add i)=some (.int k (zs.getD i 0)))∧∀ n ∈ zs,(Lit.int k n).wf=true) :
  Src k w (.slice a len cap) (zs.take len)∧(zs.take len).length≤maxLen∧∀ n ∈ zs.take len,(Lit.int k n).wf=true:=by
 rcases h with ⟨rfl,rfl,rfl,rfl⟩ | ⟨x,rfl,h1,h2,h3,h4,h5⟩
 ·exact ⟨.inl ⟨rfl,rfl⟩,by simp,fun n hn=>by simp at hn⟩
 ·have hl:(zs.take len).length=len:=by rw [List.length_take]; omega
  refine ⟨.inr ⟨x,cap,by rw [hl],by omega,fun j v hj=>?_⟩,by omega,fun n hn=>h5 n (List.mem_of_mem_take hn)⟩
  have hjl:j < zs.length:=by have:=(List.getElem?_eq_some_iff.1 hj).1; omega
  rw [List.getElem?_take] at hj
  split at hj
  ·have:=h4 j hjl
   rw [List.getD_eq_getElem?_getD,hj] at this
   exact this
  ·cases hj
def RowJ (k:IntKind) (w:World) (a:Option Addr) (len cap:Nat) (zs:List Int):Prop :=
 (a=none∧len=0∧cap=0∧zs=[])∨∃ x,a=some x∧len≤cap∧cap≤maxLen∧zs.length=cap∧(∀ i,i < zs.length→w.cell? (x.add i)=some (.int k (zs.getD i 0)))∧∀ n ∈ zs,(Lit.int k n).wf=true
theorem RowJ.openJ {k:IntKind} {w:World} {a:Option Addr} {len cap:Nat} {zs:List Int} (h:RowJ k w a len cap zs) :
  ∃ ls:List Int,ls.length=len∧len≤maxLen∧(∀ x ∈ ls,(Lit.int k x).wf=true)∧Src k w (.slice a len cap) ls:=by
 obtain ⟨h1,h2,h3⟩:=src_of_rowJ h
 have hl:(zs.take len).length=len:=by
  rcases h with ⟨_,rfl,_,rfl⟩ | ⟨x,_,h4,h5,h6,_⟩
  ·rfl
  rw [List.length_take]; omega
 exact ⟨zs.take len,hl,by rw [←hl]; exact h2,h3,h1⟩

end Go.Proofs.YtbgfmegepekapaaGreat
