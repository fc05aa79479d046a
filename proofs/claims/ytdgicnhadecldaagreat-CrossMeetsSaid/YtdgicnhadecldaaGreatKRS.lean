/- A store of several cells into a block known whole, as one step. Conditions: as each statement has them. -/
import Derived.Deep.MidRow
import Derived.Test.YtdgicnhadecldaaGreatKFD
namespace Go.Proofs.YtdgicnhadecldaaGreat
open Go.RowKit
theorem sto_cells (b:Nat):∀ (l:List Value) (o:Nat) (w:World),w.setCells b o l=sto w b o l
 | [],_,_=>rfl
 | v :: l,o,w=>sto_cells b l (o+1) (w.setCell ⟨b,o,none⟩ v)
theorem BX.there {t:TypeId} {w:World} {b:Nat} {cs:Array Value} (h:BX t w b cs) {o n:Nat} (hn:o+n≤cs.size):w.there b o n:=fun j hj=>by
 have hj2:o+j < cs.size:=by omega
 exact ⟨by rw [h.cell (o+j) (Array.getElem?_eq_getElem hj2)]; rfl,h.frozen (o+j)⟩
theorem wp_store_sto {P:Program} {op:Oper} {a:Act} {w x:World} {K:Act→World→Prop} {Q:Exit→Act→World→Prop} {t:TypeId} {cs:Array Value} (b o:Nat) (l:List Value) (hb:BX t w b cs) (hn:o+l.length≤cs.size) (hx:sto w b o l=x) (ty:TypeId) (p y:Operand) (ho:op.op=.store ty p y)
  (hp:a.eval p=.pointer (some ⟨b,o,none⟩)) (hy:a.eval y=.agg l.toArray) (hi:(P.info? ty).map (·.size)=some l.length) (h1:l.all (·.oneCell')=true)
  (h:K (a.put op.dst undef) x):op.wp P a w K Q:=by
 refine wp_store_mid ty p y ho b o l.toArray hp hy (hb.there (by simpa using hn)) (by simpa using hi) (by simpa using h1) ?_
 rw [show l.toArray.toList=l from rfl,sto_cells,hx]
 exact h
theorem putL_list:∀ (l:List Value) (cs:Array Value) (o:Nat),o+l.length≤cs.size→(putL cs o l).toList=cs.toList.take o ++ l ++ cs.toList.drop (o+l.length)
 | [],cs,o,_=>by
  show cs.toList=_
  simp
 | v :: l,cs,o,h=>by
  have h1:o < cs.toList.length:=by simp at h ⊢; omega
  have ih:=putL_list l (cs.setIfInBounds o v) (o+1) (by simp at h ⊢; omega)
  show (putL (cs.setIfInBounds o v) (o+1) l).toList=_
  rw [ih,Array.toList_setIfInBounds]
  rw [List.take_add_one,List.getElem?_set_self h1,List.take_set_of_le (Nat.le_refl o),List.drop_set_of_lt (by omega)]
  simp only [Option.toList,List.append_assoc,List.length_cons,List.cons_append,List.nil_append]
  rw [show o+1+l.length=o+(l.length+1) by omega]
theorem BX.put_all {t:TypeId} {w:World} {b:Nat} {cs:Array Value} (h:BX t w b cs) (l:List Value) (hl:cs.size=l.length):BX t (sto w b 0 l) b l.toArray:=by
 have:=h.put 0 l
 rwa [show putL cs 0 l=l.toArray from by
  apply Array.toList_inj.1
  rw [putL_list l cs 0 (by omega)]
  simp [←hl]] at this
theorem wpList_store_sto {P:Program} {ops:Array Oper} {rest:List Oper} {op:Oper} {a:Act} {w x:World} {Q:Exit→Act→World→Prop} {t:TypeId} {cs:Array Value} (b o:Nat) (l:List Value) (hb:BX t w b cs) (hn:o+l.length≤cs.size) (hx:sto w b o l=x) (hgd:op.guard=none) (ty:TypeId) (p y:Operand) (ho:op.op=.store ty p y)
  (hp:a.eval p=.pointer (some ⟨b,o,none⟩)) (hy:a.eval y=.agg l.toArray) (hi:(P.info? ty).map (·.size)=some l.length) (h1:l.all (·.oneCell')=true)
  (h:wpList P ops Q rest (a.put op.dst undef) x):wpList P ops Q (op :: rest) a w:=by
 refine wpList_store_mid hgd ty p y ho b o l.toArray hp hy (hb.there (by simpa using hn)) (by simpa using hi) (by simpa using h1) ?_
 rw [show l.toArray.toList=l from rfl,sto_cells,hx]
 exact h
/-- A load of a whole row, also behind a guard that holds. -/
theorem wpList_load_want {P:Program} {ops:Array Oper} {rest:List Oper} {o:Oper} {a:Act} {w:World} {Q:Exit→Act→World→Prop} (hw:Region.wanted o (yielded ops a.tmps)=true) (ty:TypeId) (x:Operand) (ho:o.op=.load ty x)
  (g:Nat) (hx:a.eval x=.pointer (some ⟨g,0,none⟩)) (t:TypeId) (cs:Array Value) (fr:Nat × Nat) (d:TypeDesc) (hg:w.heap[g]?=some (.cells cs t fr))
  (hu:P.underlying ty=some d) (hd:(match d with | .struct _ | .array _ _=>true | _=>false)=true) (hi:(P.info? ty).map (·.size)=some cs.size)
  (h:wpList P ops Q rest (a.put o.dst (.agg cs)) w):wpList P ops Q (o :: rest) a w :=
 wpList_step fun K hK=>by rw [if_pos hw]; exact wp_load_row ty x ho g hx t cs fr d hg hu hd hi (hK _ _ h)
/-- The list begins with this store. -/
theorem wpList_st {P:Program} {ops:Array Oper} {rest:List Oper} {op:Oper} {a:Act} {w:World} {Q:Exit→Act→World→Prop} (ty:TypeId) (p y:Operand) (_:op.op=.store ty p y) (g:wpList P ops Q (op :: rest) a w):wpList P ops Q (op :: rest) a w:=g
/-- The list begins with this load. -/
theorem wpList_ld {P:Program} {ops:Array Oper} {rest:List Oper} {op:Oper} {a:Act} {w:World} {Q:Exit→Act→World→Prop} (ty:TypeId) (p:Operand) (_:op.op=.load ty p) (g:wpList P ops Q (op :: rest) a w):wpList P ops Q (op :: rest) a w:=g
end Go.Proofs.YtdgicnhadecldaaGreat
