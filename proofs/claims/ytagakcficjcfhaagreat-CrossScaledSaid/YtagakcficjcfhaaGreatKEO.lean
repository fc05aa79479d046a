/- Contracts: the steps of doubledArea over integers. Conditions: as each statement has them. -/
import Derived.Test.YtagakcficjcfhaaGreatKFD
import Derived.Test.YtagakcficjcfhaaGreatKED
import Derived.Laws.EntriesVeiled
import Derived.Test.YtagakcficjcfhaaGreatKAE
namespace Go.Proofs.YtagakcficjcfhaaGreat
set_option maxRecDepth 100000
set_option maxHeartbeats 12800000
open Go.RowKit
attribute [local go_sem ↓] Go.wp_at_zero Go.wp_at_succ
set_option linter.unusedVariables false
set_option linter.unusedSimpArgs false
theorem OwnR.news {okv:Value→Bool} {w:World} {base:Nat} {e:TypeId} {size n g cap:Nat} {xs:List Value} (h:OwnR okv w base e size (.slice (some ⟨g,0,none⟩) n cap) n xs):∀ j u,xs[j]?=some u→w.cell? ((⟨g,0,none⟩:Addr).add j)=some u:=fun j u hu=>h.1.cells (g:=g) rfl j u hu
theorem OwnR.blk {okv:Value→Bool} {w:World} {base:Nat} {e:TypeId} {size n g cap:Nat} {xs:List Value} (h:OwnR okv w base e size (.slice (some ⟨g,0,none⟩) n cap) n xs):∃ cur,BX e w g cur∧cur.toList.take (n*size)=xs∧base≤g∧n≤cap∧cap≤maxLen∧cur.size=cap*size∧cur.toList.all okv=true:=by
 obtain ⟨⟨h1,h2⟩,h3⟩:=h
 rcases h2 with ⟨h0,_⟩ | ⟨g',cap',cur,hv,hb,hg,c1,c2,c3,c4⟩
 ·cases h0
 ·cases hv
  exact ⟨cur,hg,c4,hb,c1,c2,c3,h3 g cur rfl hg⟩
theorem OwnR.put1 {okv:Value→Bool} {w:World} {base:Nat} {e:TypeId} {size n g cap:Nat} {xs:List Value} (h:OwnR okv w base e size (.slice (some ⟨g,0,none⟩) n cap) n xs) (o:Nat) (u:Value) (hu:okv u=true):OwnR okv (w.setCell ⟨g,o,none⟩ u) base e size (.slice (some ⟨g,0,none⟩) n cap) n (xs.set o u):=by
 obtain ⟨cur,hg,c4,hb,c1,c2,c3,ho⟩:=h.blk
 have hl:=h.1.1
 have hn:=hg.put1 o u
 refine ⟨⟨by rw [List.length_set]; exact hl,.inr ⟨g,cap,cur.setIfInBounds o u,rfl,hb,hn,c1,c2,by rw [Array.size_setIfInBounds]; exact c3,by rw [Array.toList_setIfInBounds,List.take_set,c4]⟩⟩,fun g' cur' hg' hc=>?_⟩
 simp only [Value.ownBlock,Option.some.injEq] at hg'
 subst hg'
 unfold BX at hn
 rw [hn] at hc
 injection hc with hc
 injection hc with h1
 subst h1
 rw [Array.toList_setIfInBounds,List.all_eq_true]
 intro x hx
 rcases List.mem_or_eq_of_mem_set hx with hx | rfl
 ·exact List.all_eq_true.1 ho x hx
 ·exact hu
/-- A list with elements replaced. -/
def setL (xs:List Value):Nat→List Value→List Value
 | _,[]=>xs
 | o,v :: l=>setL (xs.set o v) (o+1) l
theorem OwnR.sto {okv:Value→Bool} {w:World} {base:Nat} {e:TypeId} {size n g cap:Nat} {xs:List Value} (h:OwnR okv w base e size (.slice (some ⟨g,0,none⟩) n cap) n xs) (o:Nat) (vs:List Value) (hv:vs.all okv=true):OwnR okv (sto w g o vs) base e size (.slice (some ⟨g,0,none⟩) n cap) n (setL xs o vs):=by
 induction vs generalizing w xs o with
 | nil=>exact h
 | cons v l ih =>
  rw [List.all_cons,Bool.and_eq_true] at hv
  exact ih (h.put1 o v hv.1) (o+1) hv.2
end Go.Proofs.YtagakcficjcfhaaGreat
