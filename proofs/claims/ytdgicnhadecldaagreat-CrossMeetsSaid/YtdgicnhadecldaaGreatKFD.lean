/- Contracts of the program's fractions: isOne, Num, Den, lowest, divided. Conditions: as each statement has them. -/
import Derived.Test.YtdgicnhadecldaaGreatKB6
namespace Go.Proofs.YtdgicnhadecldaaGreat
set_option maxRecDepth 100000
set_option maxHeartbeats 12800000
open Go.RowKit
attribute [local go_sem ↓] Go.wp_at_zero Go.wp_at_succ
/-- Block b is just four cells, none frozen. -/
def P4 (t:TypeId) (w:World) (b:Nat) (v0 v1 v2 v3:Value):Prop:=w.heap[b]?=some (.cells #[v0,v1,v2,v3] t (0,0))
section
variable {t:TypeId} {w w':World} {b:Nat} {v0 v1 v2 v3:Value}
theorem P4.lt (h:P4 t w b v0 v1 v2 v3):b < w.heap.size:=(Array.getElem?_eq_some_iff.1 h).1
theorem P4.cells (h:P4 t w b v0 v1 v2 v3):w.cell? ⟨b,0,none⟩=some v0∧w.cell? ⟨b,1,none⟩=some v1∧w.cell? ⟨b,2,none⟩=some v2∧w.cell? ⟨b,3,none⟩=some v3:=by
 unfold P4 at h
 refine ⟨?_,?_,?_,?_⟩ <;> simp [World.cell?,h]
theorem P4.frozen (h:P4 t w b v0 v1 v2 v3) (i:Nat):w.frozen? ⟨b,i,none⟩=false:=by
 unfold P4 at h
 simp [World.frozen?,h]
theorem P4.new (h:P4 t w b v0 v1 v2 v3) (hb:Below w.heap.size w w'):P4 t w' b v0 v1 v2 v3:=(hb.block b h.lt).trans h
theorem P4.far (h:P4 t w b v0 v1 v2 v3) {p:Addr} (hp:b≠p.block) (u:Value):P4 t (w.setCell p u) b v0 v1 v2 v3:=(Below.heap_setCell w p u b hp).trans h
theorem P4.all (h:P4 t w b v0 v1 v2 v3) (u0 u1 u2 u3:Value):P4 t ((((w.setCell ⟨b,0,none⟩ u0).setCell ⟨b,1,none⟩ u1).setCell ⟨b,2,none⟩ u2).setCell ⟨b,3,none⟩ u3) b u0 u1 u2 u3:=by
 unfold P4 at h ⊢
 simp [World.setCell,Array.getElem?_modify,h]
theorem P4.far2 (h:P4 t w b v0 v1 v2 v3) {g:Nat} (hg:b≠g) (u0 u1:Value):P4 t ((w.setCell ⟨g,0,none⟩ u0).setCell ⟨g,1,none⟩ u1) b v0 v1 v2 v3:=(h.far (p:=⟨g,0,none⟩) hg u0).far (p:=⟨g,1,none⟩) hg u1
theorem P4.far4 (h:P4 t w b v0 v1 v2 v3) {g:Nat} (hg:b≠g) (u0 u1 u2 u3:Value):P4 t ((((w.setCell ⟨g,0,none⟩ u0).setCell ⟨g,1,none⟩ u1).setCell ⟨g,2,none⟩ u2).setCell ⟨g,3,none⟩ u3) b v0 v1 v2 v3:=(((h.far (p:=⟨g,0,none⟩) hg u0).far (p:=⟨g,1,none⟩) hg u1).far (p:=⟨g,2,none⟩) hg u2).far (p:=⟨g,3,none⟩) hg u3
theorem P2.far4 {x0 x1:Value} (h:P2 t w b x0 x1) {g:Nat} (hg:b≠g) (u0 u1 u2 u3:Value):P2 t ((((w.setCell ⟨g,0,none⟩ u0).setCell ⟨g,1,none⟩ u1).setCell ⟨g,2,none⟩ u2).setCell ⟨g,3,none⟩ u3) b x0 x1:=(((h.far (p:=⟨g,0,none⟩) hg u0).far (p:=⟨g,1,none⟩) hg u1).far (p:=⟨g,2,none⟩) hg u2).far (p:=⟨g,3,none⟩) hg u3
theorem P4.lit (w:World) (t:TypeId) (v0 v1 v2 v3:Value):P4 t (w.alloc (.cells #[v0,v1,v2,v3] t)) w.heap.size v0 v1 v2 v3:=heap_alloc_new w _
theorem P4.no_int (h:P4 t w b v0 v1 v2 v3) (h0:isI v0=false) (h1:isI v1=false) (h2:isI v2=false) (h3:isI v3=false) (o:Nat) (k:IntKind) (x:Int):w.cell? ⟨b,o,none⟩≠some (.int k x):=by
 unfold P4 at h
 rw [cell_of_row w b o _ t (0,0) h]
 match o with
 | 0=>intro e; injection e with e; subst e; cases h0
 | 1=>intro e; injection e with e; subst e; cases h1
 | 2=>intro e; injection e with e; subst e; cases h2
 | 3=>intro e; injection e with e; subst e; cases h3
 | o+4=>simp
end
theorem LO.box4 {k:IntKind} {ok:Nat→Prop} {t:TypeId} {w:World} {v v0 v1 v2 v3:Value} {l:List Nat} {b:Nat} (h:LO k ok w v l) (hp:P4 t w b v0 v1 v2 v3) (h0:isI v0=false) (h1:isI v1=false) (h2:isI v2=false) (h3:isI v3=false) (u0 u1 u2 u3:Value):LO k ok ((((w.setCell ⟨b,0,none⟩ u0).setCell ⟨b,1,none⟩ u1).setCell ⟨b,2,none⟩ u2).setCell ⟨b,3,none⟩ u3) v l :=
 h.apart (tt:=(· = b)) (((((Kp.refl (· = b) w).setCell (p:=⟨b,0,none⟩) (fun _=>rfl) u0).setCell (p:=⟨b,1,none⟩) (fun _=>rfl) u1).setCell (p:=⟨b,2,none⟩) (fun _=>rfl) u2).setCell (p:=⟨b,3,none⟩) (fun _=>rfl) u3) (fun g e _ o x=>by subst e; exact hp.no_int h0 h1 h2 h3 o k x)
theorem PIo.box4 {ok:Nat→Prop} {w:World} {s:Bool} {A:Option Addr} {n c:Nat} {x:Int} {t:TypeId} {b:Nat} {v0 v1 v2 v3:Value} (h:PIo ok w s A n c x) (hp:P4 t w b v0 v1 v2 v3) (h0:isI v0=false) (h1:isI v1=false) (h2:isI v2=false) (h3:isI v3=false) (u0 u1 u2 u3:Value):PIo ok ((((w.setCell ⟨b,0,none⟩ u0).setCell ⟨b,1,none⟩ u1).setCell ⟨b,2,none⟩ u2).setCell ⟨b,3,none⟩ u3) s A n c x:=⟨h.1,h.2.1,h.2.2.box4 hp h0 h1 h2 h3 u0 u1 u2 u3⟩
theorem below_box4 {w0 w:World} {B b:Nat} (h:Below B w0 w) (hb:B≤b) (u0 u1 u2 u3:Value):Below B w0 ((((w.setCell ⟨b,0,none⟩ u0).setCell ⟨b,1,none⟩ u1).setCell ⟨b,2,none⟩ u2).setCell ⟨b,3,none⟩ u3) :=
 (((h.setCell (p:=⟨b,0,none⟩) hb u0).setCell (p:=⟨b,1,none⟩) hb u1).setCell (p:=⟨b,2,none⟩) hb u2).setCell (p:=⟨b,3,none⟩) hb u3
/-- The denominator as it is kept: 0 for 1. -/
def dn (q:Int):Int:=if q=1 then 0 else q
theorem dn_ne {q:Int} (h:q≠1):dn q=q:=if_neg h
/-- A fraction lies in a value of four cells. -/
def PF (w:World) (s:Bool) (A:Option Addr) (n c:Nat) (s':Bool) (A':Option Addr) (n' c':Nat) (p q:Int):Prop:=PI w s A n c p∧PI w s' A' n' c' (dn q)
theorem PF.new {w w':World} {s s':Bool} {A A':Option Addr} {n c n' c':Nat} {p q:Int} (h:PF w s A n c s' A' n' c' p q) (hb:Below w.heap.size w w'):PF w' s A n c s' A' n' c' p q:=⟨PIo.new h.1 hb,PIo.new h.2 hb⟩
theorem PF.box {w:World} {s s':Bool} {A A':Option Addr} {n c n' c':Nat} {p q:Int} {t:TypeId} {B:Nat} {b0:Bool} {A0:Option Addr} {n0 c0:Nat} (h:PF w s A n c s' A' n' c' p q) (hp:P2 t w B (.bool b0) (.slice A0 n0 c0)) (u0 u1:Value):PF ((w.setCell ⟨B,0,none⟩ u0).setCell ⟨B,1,none⟩ u1) s A n c s' A' n' c' p q:=⟨PIo.box h.1 hp rfl rfl u0 u1,PIo.box h.2 hp rfl rfl u0 u1⟩
/-- What a function returns that returns a fraction. -/
def RetF (p q:Int) (w:World) (e:Ending) (w':World):Prop:=∃ s A n c s' A' n' c',e=.returned (.agg #[.bool s,.slice A n c,.bool s',.slice A' n' c'])∧PF w' s A n c s' A' n' c' p q∧Below w.heap.size w w'
/-- The same with an error. -/
def RetFE (p q code:Int) (w:World) (e:Ending) (w':World):Prop:=∃ s A n c s' A' n' c',e=.returned (.tuple #[.agg #[.bool s,.slice A n c,.bool s',.slice A' n' c'],.int .i64 code])∧PF w' s A n c s' A' n' c' p q∧Below w.heap.size w w'
theorem F_size:(Tryz.prog.info? 35).map (·.size)=some 4:=by kernel_rfl
theorem RetF.stored {p q:Int} {w w6:World} {s s':Bool} {A A':Option Addr} {n c n' c':Nat} {B:Nat} {t:TypeId} {b0 b1:Bool} {A0 A1:Option Addr} {n0 c0 n1 c1:Nat} (h:PF w6 s A n c s' A' n' c' p q) (hp:P4 t w6 B (.bool b0) (.slice A0 n0 c0) (.bool b1) (.slice A1 n1 c1)) (hb:Below w.heap.size w w6) (hB:w.heap.size≤B) (u0 u1 u2 u3:Value) :
  RetF p q w (.returned (.agg #[.bool s,.slice A n c,.bool s',.slice A' n' c'])) ((((w6.setCell ⟨B,0,none⟩ u0).setCell ⟨B,1,none⟩ u1).setCell ⟨B,2,none⟩ u2).setCell ⟨B,3,none⟩ u3) :=
 ⟨s,A,n,c,s',A',n',c',rfl,⟨PIo.box4 h.1 hp rfl rfl rfl rfl u0 u1 u2 u3,PIo.box4 h.2 hp rfl rfl rfl rfl u0 u1 u2 u3⟩,below_box4 hb hB u0 u1 u2 u3⟩
theorem RetFE.stored {p q code:Int} {w w6:World} {s s':Bool} {A A':Option Addr} {n c n' c':Nat} {B:Nat} {t:TypeId} {b0 b1:Bool} {A0 A1:Option Addr} {n0 c0 n1 c1:Nat} (h:PF w6 s A n c s' A' n' c' p q) (hp:P4 t w6 B (.bool b0) (.slice A0 n0 c0) (.bool b1) (.slice A1 n1 c1)) (hb:Below w.heap.size w w6) (hB:w.heap.size≤B) (u0 u1 u2 u3:Value) :
  RetFE p q code w (.returned (.tuple #[.agg #[.bool s,.slice A n c,.bool s',.slice A' n' c'],.int .i64 code])) ((((w6.setCell ⟨B,0,none⟩ u0).setCell ⟨B,1,none⟩ u1).setCell ⟨B,2,none⟩ u2).setCell ⟨B,3,none⟩ u3) :=
 ⟨s,A,n,c,s',A',n',c',rfl,⟨PIo.box4 h.1 hp rfl rfl rfl rfl u0 u1 u2 u3,PIo.box4 h.2 hp rfl rfl rfl rfl u0 u1 u2 u3⟩,below_box4 hb hB u0 u1 u2 u3⟩
/-- Is it 1? -/
def oneB (x:Int):Bool:=decide (x=1)
theorem one_true:oneB 1=true:=rfl
theorem one_false {x:Int} (h:x≠1):oneB x=false:=decide_eq_false h
theorem sm_one (x:Int):(smV x=1∧x=1)∨(smV x≠1∧x≠1):=by
 unfold smV isSm
 by_cases h:x=1
 ·subst h; exact .inl ⟨rfl,rfl⟩
 ·refine .inr ⟨?_,h⟩
  split <;> omega
theorem isone_any (x:Int) (s:Bool) (A:Option Addr) (n c:Nat) (w:World) (hx:PI w s A n c x) (hn:n≤900000) :
  Calls Tryz.prog 131 #[.agg #[.bool s,.slice A n c]] w fun e w'=>e=.returned (.bool (oneB x))∧Below w.heap.size w w':=by
 have hb0:=(Below.refl w.heap.size w).alloc (Nat.le_refl _) (.cells #[.bool s,.slice A n c] 33)
 have HB:=hJ hb0
 have HX:=hJ (PIo.new hx hb0)
 have HO:=hJ (sm_one x)
 clear hx hb0
 go_enter Tryz.func131,Tryz.ntmps131
 go_wp2_with fail
 refine (psmall_any x s A n c _ HX.out hn).mono ?_
 rintro e w1 ⟨rfl,hb1⟩
 have aA:=hJ (bt HB.out hb1)
 clear hb1
 have ho:=HO.out
 obtain ⟨u,hu⟩:∃ u,smV x=u:=⟨_,rfl⟩
 rw [hu] at ho ⊢
 clear hu HO
 rcases ho with ⟨rfl,rfl⟩ | ⟨h1,h2⟩
 ·go_wp2
  go_ret
  exact ⟨rfl,aA.out⟩
 ·have HE:=hJ h2
  have HU:=hJ h1
  clear h1 h2
  go_wp2
  go_ret
  exact ⟨by rw [one_false HE.out]; simp [HU.out],aA.out⟩
theorem cmpI_zz:cmpI 0 0=0:=rfl
theorem den_any (p q:Int) (s s':Bool) (A A':Option Addr) (n c n' c':Nat) (w:World) (hx:PF w s A n c s' A' n' c' p q) (hn:n'≤900000) (hq:0 < q) :
  Calls Tryz.prog 90 #[.agg #[.bool s,.slice A n c,.bool s',.slice A' n' c']] w (RetP q w):=by
 obtain ⟨W,hW⟩:∃ W,(w.alloc (.cells #[.bool s,.slice A n c,.bool s',.slice A' n' c'] 35)).alloc (.cells #[.bool false,.slice none 0 0] 33)=W:=⟨_,rfl⟩
 have HK:=hJ (show Below w.heap.size w W by rw [←hW]; exact ((Below.refl _ w).alloc (Nat.le_refl _) _).alloc (by simp) _)
 have HA:=hJ (show P4 35 W w.heap.size (.bool s) (.slice A n c) (.bool s') (.slice A' n' c') by rw [←hW]; exact (P4.lit w _ _ _ _ _).new ((Below.refl _ _).alloc (Nat.le_refl _) _))
 have HZ:=hJ (show P2 33 W (w.heap.size+1) (.bool false) (.slice none 0 0) by
  rw [←hW]
  have h0:=P2.lit (w.alloc (.cells #[.bool s,.slice A n c,.bool s',.slice A' n' c'] 35)) 33 (.bool false) (.slice none 0 0)
  rw [World.size_alloc] at h0
  exact h0)
 have HX:=hJ (hx.new HK.out).2
 have HQ:=hJ hq
 clear hx hq
 obtain ⟨a0,a1,a2,a3⟩:=HA.out.cells
 by_cases h1:q=1
 ·have HE:=hJ h1
  have aG:=hJ (PIo.eq HX.out (show dn q=0 by rw [h1]; rfl))
  clear h1
  go_enter Tryz.func90,Tryz.ntmps90
  go_wp2_with fail
  refine (sign_any 0 s' A' n' c' W aG.out hn).mono ?_
  rw [cmpI_zz]
  rintro e w1 ⟨rfl,hb1⟩
  have aC:=hJ (bt HK.out hb1)
  have aA:=hJ (HZ.out.new hb1)
  clear hb1 a0 a1 a2 a3
  go_wp2_with fail
  refine (from_any 1 w1 (by decide)).mono ?_
  rintro e w2 ⟨s2,A2,n2,c2,rfl,hr2,hb2⟩
  have aH:=hJ (PIo.eq hr2 HE.out.symm)
  have aI:=hJ (bt aC.out hb2)
  have aB:=hJ (aA.out.new hb2)
  clear hr2 hb2
  obtain ⟨z0,z1⟩:=aB.out.cells
  have f0:=aB.out.frozen 0
  have f1:=aB.out.frozen 1
  go_wp2
  exact bodyPost_ret (results_cell_row rfl _ _ _ _ _ _ _ rfl (aB.out.all (.bool s2) (.slice A2 n2 c2)) Tryz.underlying33 rfl W_size) rfl (RetP.stored aH.out aB.out rfl rfl aI.out (by omega) _ _)
 ·have aD:=hJ (PIo.eq HX.out (dn_ne h1))
  have HC:=hJ (cmpI_zero (y:=q) (by have:=HQ.out; omega))
  clear h1
  go_enter Tryz.func90,Tryz.ntmps90
  go_wp2_with fail
  refine (sign_any q s' A' n' c' W aD.out hn).mono ?_
  obtain ⟨u,hu⟩:∃ u,cmpI q 0=u:=⟨_,rfl⟩
  rw [hu] at HC ⊢
  have hc:=HC.out
  rintro e w1 ⟨rfl,hb1⟩
  have aC:=hJ (bt HK.out hb1)
  have aA:=hJ (HZ.out.new hb1)
  have aJ:=hJ (HA.out.new hb1)
  have aK:=hJ (PIo.new aD.out hb1)
  clear hb1 a0 a1 a2 a3 hu HC
  obtain ⟨a0,a1,a2,a3⟩:=aJ.out.cells
  obtain ⟨z0,z1⟩:=aA.out.cells
  have f0:=aA.out.frozen 0
  have f1:=aA.out.frozen 1
  go_wp2
  exact bodyPost_ret (results_cell_row rfl _ _ _ _ _ _ _ rfl (aA.out.all (.bool s') (.slice A' n' c')) Tryz.underlying33 rfl W_size) rfl (RetP.stored aK.out aA.out rfl rfl aC.out (by omega) _ _)
/-- Block b is just these cells, none frozen. -/
def BX (t:TypeId) (w:World) (b:Nat) (cs:Array Value):Prop:=w.heap[b]?=some (.cells cs t (0,0))
/-- Cells stored one behind the other. -/
def sto (w:World) (g:Nat):Nat→List Value→World
 | _,[]=>w
 | o,v :: l=>sto (w.setCell ⟨g,o,none⟩ v) g (o+1) l
def putL (cs:Array Value):Nat→List Value→Array Value
 | _,[]=>cs
 | o,v :: l=>putL (cs.setIfInBounds o v) (o+1) l
/-- No integer of this kind. -/
def noI (k:IntKind) (cs:Array Value):Bool:=cs.toList.all fun v=>match v with
 | .int k' _ => !decide (k'=k)
 | _=>true
section
variable {t:TypeId} {w w':World} {b:Nat} {cs:Array Value}
theorem BX.lt (h:BX t w b cs):b < w.heap.size:=(Array.getElem?_eq_some_iff.1 h).1
theorem BX.cell (h:BX t w b cs) (i:Nat) {v:Value} (hv:cs[i]?=some v):w.cell? ⟨b,i,none⟩=some v:=by
 unfold BX at h
 rw [cell_of_row w b i cs t (0,0) h,hv]
theorem BX.c2 (h:BX t w b cs) (i j:Nat) {v u:Value} (hv:cs[i]?=some v) (hu:cs[j]?=some u):w.cell? ⟨b,i,none⟩=some v∧w.cell? ⟨b,j,none⟩=some u:=⟨h.cell i hv,h.cell j hu⟩
theorem BX.c4 (h:BX t w b cs) (i j k l:Nat) {v u x y:Value} (hv:cs[i]?=some v) (hu:cs[j]?=some u) (hx:cs[k]?=some x) (hy:cs[l]?=some y):w.cell? ⟨b,i,none⟩=some v∧w.cell? ⟨b,j,none⟩=some u∧w.cell? ⟨b,k,none⟩=some x∧w.cell? ⟨b,l,none⟩=some y:=⟨h.cell i hv,h.cell j hu,h.cell k hx,h.cell l hy⟩
theorem BX.q4 (h:BX t w b cs) (i0 i1 i2 i3:Nat) {v0 v1 v2 v3:Value} (h0:cs[i0]?=some v0:=by exact rfl) (h1:cs[i1]?=some v1:=by exact rfl) (h2:cs[i2]?=some v2:=by exact rfl) (h3:cs[i3]?=some v3:=by exact rfl):w.cell? ⟨b,i0,none⟩=some v0∧w.cell? ⟨b,i1,none⟩=some v1∧w.cell? ⟨b,i2,none⟩=some v2∧w.cell? ⟨b,i3,none⟩=some v3:=⟨h.cell _ h0,h.cell _ h1,h.cell _ h2,h.cell _ h3⟩
theorem BX.q8 (h:BX t w b cs) (i0 i1 i2 i3 i4 i5 i6 i7:Nat) {v0 v1 v2 v3 v4 v5 v6 v7:Value} (h0:cs[i0]?=some v0:=by exact rfl) (h1:cs[i1]?=some v1:=by exact rfl) (h2:cs[i2]?=some v2:=by exact rfl) (h3:cs[i3]?=some v3:=by exact rfl) (h4:cs[i4]?=some v4:=by exact rfl) (h5:cs[i5]?=some v5:=by exact rfl) (h6:cs[i6]?=some v6:=by exact rfl) (h7:cs[i7]?=some v7:=by exact rfl):w.cell? ⟨b,i0,none⟩=some v0∧w.cell? ⟨b,i1,none⟩=some v1∧w.cell? ⟨b,i2,none⟩=some v2∧w.cell? ⟨b,i3,none⟩=some v3∧w.cell? ⟨b,i4,none⟩=some v4∧w.cell? ⟨b,i5,none⟩=some v5∧w.cell? ⟨b,i6,none⟩=some v6∧w.cell? ⟨b,i7,none⟩=some v7:=⟨h.cell _ h0,h.cell _ h1,h.cell _ h2,h.cell _ h3,h.cell _ h4,h.cell _ h5,h.cell _ h6,h.cell _ h7⟩
theorem BX.frozen (h:BX t w b cs) (i:Nat):w.frozen? ⟨b,i,none⟩=false:=by
 unfold BX at h
 exact frozen_of_row w b i cs t h
theorem BX.new (h:BX t w b cs) (hb:Below w.heap.size w w'):BX t w' b cs:=(hb.block b h.lt).trans h
theorem BX.lit (w:World) (t:TypeId) (cs:Array Value):BX t (w.alloc (.cells cs t)) w.heap.size cs:=heap_alloc_new w _
theorem BX.at (e:w.heap.size=b):BX t (w.alloc (.cells cs t)) b cs:=by subst e; exact BX.lit w t cs
theorem BX.alloc (h:BX t w b cs) (o:Obj):BX t (w.alloc o) b cs:=h.new ((Below.refl _ _).alloc (Nat.le_refl _) _)
theorem BX.far1 (h:BX t w b cs) {p:Addr} (hp:b≠p.block) (u:Value):BX t (w.setCell p u) b cs:=(Below.heap_setCell w p u b hp).trans h
theorem BX.put1 (h:BX t w b cs) (o:Nat) (u:Value):BX t (w.setCell ⟨b,o,none⟩ u) b (cs.setIfInBounds o u):=by
 unfold BX at h ⊢
 simp [World.setCell,Array.getElem?_modify,h]
theorem BX.put (h:BX t w b cs) (o:Nat) (vs:List Value):BX t (sto w b o vs) b (putL cs o vs):=by
 induction vs generalizing o w cs with
 | nil=>exact h
 | cons v l ih=>exact ih (h.put1 o v) (o+1)
theorem BX.far (h:BX t w b cs) {g:Nat} (hg:b≠g) (o:Nat) (vs:List Value):BX t (sto w g o vs) b cs:=by
 induction vs generalizing o w with
 | nil=>exact h
 | cons v l ih=>exact ih (h.far1 (p:=⟨g,o,none⟩) hg v) (o+1)
end
theorem below_sto {w0 w:World} {B g:Nat} (h:Below B w0 w) (hg:B≤g) (o:Nat) (vs:List Value):Below B w0 (sto w g o vs):=by
 induction vs generalizing o w with
 | nil=>exact h
 | cons v l ih=>exact ih (h.setCell (p:=⟨g,o,none⟩) hg v) (o+1)
theorem kp_sto {w0 w:World} {g:Nat} (h:Kp (· = g) w0 w) (o:Nat) (vs:List Value):Kp (· = g) w0 (sto w g o vs):=by
 induction vs generalizing o w with
 | nil=>exact h
 | cons v l ih=>exact ih (h.setCell (p:=⟨g,o,none⟩) (fun _=>rfl) v) (o+1)
theorem noI_cell {k:IntKind} {t:TypeId} {w:World} {b:Nat} {cs:Array Value} (h:BX t w b cs) (hn:noI k cs=true) (o:Nat) (x:Int):w.cell? ⟨b,o,none⟩≠some (.int k x):=by
 intro e
 unfold BX at h
 rw [cell_of_row w b o _ t (0,0) h] at e
 have hm:Value.int k x ∈ cs.toList:=Array.mem_toList_iff.2 (Array.mem_of_getElem? e)
 have:=List.all_eq_true.1 hn _ hm
 simp at this
theorem LO.sto {k:IntKind} {ok:Nat→Prop} {t:TypeId} {w:World} {v:Value} {l:List Nat} {b:Nat} {cs:Array Value} (h:LO k ok w v l) (hp:BX t w b cs) (hn:noI k cs=true) (o:Nat) (vs:List Value):LO k ok (sto w b o vs) v l :=
 h.apart (tt:=(· = b)) (kp_sto (Kp.refl _ w) o vs) (fun g e _ o x=>by subst e; exact noI_cell hp hn o x)
theorem PIo.sto {ok:Nat→Prop} {w:World} {s:Bool} {A:Option Addr} {n c:Nat} {x:Int} {t:TypeId} {b:Nat} {cs:Array Value} (h:PIo ok w s A n c x) (hp:BX t w b cs) (hn:noI .u32 cs=true) (o:Nat) (vs:List Value):PIo ok (sto w b o vs) s A n c x:=⟨h.1,h.2.1,h.2.2.sto hp hn o vs⟩
theorem PF.sto {w:World} {s s':Bool} {A A':Option Addr} {n c n' c':Nat} {p q:Int} {t:TypeId} {b:Nat} {cs:Array Value} (h:PF w s A n c s' A' n' c' p q) (hp:BX t w b cs) (hn:noI .u32 cs=true) (o:Nat) (vs:List Value):PF (sto w b o vs) s A n c s' A' n' c' p q:=⟨PIo.sto h.1 hp hn o vs,PIo.sto h.2 hp hn o vs⟩
theorem plim {w:World} {s:Bool} {A:Option Addr} {n c:Nat} {x:Int} (h:PI w s A n c x) (hx:x.natAbs < lim):n≤512:=by
 have:=(fits_iff x.natAbs).2 hx
 rw [h.2.1] at this
 exact this
/-- Two boxes of two cells, and one of four. -/
def W224 (t u:TypeId) (w:World) (a0 a1 b0 b1 z0 z1 z2 z3:Value):World:=((w.alloc (.cells #[a0,a1] t)).alloc (.cells #[b0,b1] t)).alloc (.cells #[z0,z1,z2,z3] u)
section
variable (t u:TypeId) (w:World) (a0 a1 b0 b1 z0 z1 z2 z3:Value)
theorem W224_a:P2 t (W224 t u w a0 a1 b0 b1 z0 z1 z2 z3) w.heap.size a0 a1:=((P2.lit w t a0 a1).alloc _).alloc _
theorem W224_b:P2 t (W224 t u w a0 a1 b0 b1 z0 z1 z2 z3) (w.heap.size+1) b0 b1:=by
 have:=P2.lit (w.alloc (.cells #[a0,a1] t)) t b0 b1
 rw [World.size_alloc] at this
 exact this.alloc _
theorem W224_z:P4 u (W224 t u w a0 a1 b0 b1 z0 z1 z2 z3) (w.heap.size+1+1) z0 z1 z2 z3:=by
 have:=P4.lit ((w.alloc (.cells #[a0,a1] t)).alloc (.cells #[b0,b1] t)) u z0 z1 z2 z3
 rw [World.size_alloc,World.size_alloc] at this
 exact this
theorem W224_k:Below w.heap.size w (W224 t u w a0 a1 b0 b1 z0 z1 z2 z3):=(((Below.refl _ w).alloc (Nat.le_refl _) _).alloc (by simp) _).alloc (by simp; omega) _
end
theorem flowest_any (p q:Int) (s s':Bool) (A A':Option Addr) (n c n' c':Nat) (w:World) (hx:PI w s A n c p) (hy:PI w s' A' n' c' q) (hn':n'≤900000) :
  Calls Tryz.prog 96 #[.agg #[.bool s,.slice A n c],.agg #[.bool s',.slice A' n' c']] w (RetF p q w):=by
 obtain ⟨W,hW⟩:∃ W,((w.alloc (.cells #[.bool s,.slice A n c] 33)).alloc (.cells #[.bool s',.slice A' n' c'] 33)).alloc (.cells #[.bool false,.slice none 0 0,.bool false,.slice none 0 0] 35)=W:=⟨_,rfl⟩
 have HK:=hJ (show Below w.heap.size w W by rw [←hW]; exact W224_k _ _ _ _ _ _ _ _ _ _ _)
 have HA:=hJ (show P2 33 W w.heap.size (.bool s) (.slice A n c) by rw [←hW]; exact W224_a _ _ _ _ _ _ _ _ _ _ _)
 have HB:=hJ (show P2 33 W (w.heap.size+1) (.bool s') (.slice A' n' c') by rw [←hW]; exact W224_b _ _ _ _ _ _ _ _ _ _ _)
 have HZ:=hJ (show P4 35 W (w.heap.size+1+1) (.bool false) (.slice none 0 0) (.bool false) (.slice none 0 0) by rw [←hW]; exact W224_z _ _ _ _ _ _ _ _ _ _ _)
 have HX:=hJ (PIo.new hx HK.out)
 have HY:=hJ (PIo.new hy HK.out)
 clear hx hy
 obtain ⟨b0,b1⟩:=HB.out.cells
 go_enter Tryz.func96,Tryz.ntmps96
 go_wp2_with fail
 refine (isone_any q s' A' n' c' W HY.out hn').mono ?_
 rintro e w1 ⟨rfl,hb1⟩
 have aB:=hJ (bt HK.out hb1)
 have aD:=hJ (HA.out.new hb1)
 have aG:=hJ (HB.out.new hb1)
 have aA:=hJ (HZ.out.new hb1)
 have aC:=hJ (PIo.new HX.out hb1)
 have aH:=hJ (PIo.new HY.out hb1)
 clear hb1 b0 b1 hW
 obtain ⟨a0,a1⟩:=aD.out.cells
 obtain ⟨b0,b1⟩:=aG.out.cells
 obtain ⟨z0,z1,z2,z3⟩:=aA.out.cells
 have f0:=aA.out.frozen 0
 have f1:=aA.out.frozen 1
 have f2:=aA.out.frozen 2
 have f3:=aA.out.frozen 3
 by_cases h1:q=1
 ·have HF:=hJ (show PF w1 s A n c false none 0 0 p q from ⟨aC.out,by rw [h1]; exact PI.zero w1⟩)
  rw [h1,one_true]
  clear h1
  go_wp2
  exact bodyPost_ret (results_cell_row rfl _ _ _ _ _ _ _ rfl (aA.out.all (.bool s) (.slice A n c) (.bool false) (.slice none 0 0)) Tryz.underlying35 rfl F_size) rfl (RetF.stored HF.out aA.out aB.out (by omega) _ _ _ _)
 ·have HF:=hJ (show PF w1 s A n c s' A' n' c' p q from ⟨aC.out,by rw [dn_ne h1]; exact aH.out⟩)
  rw [one_false h1]
  clear h1
  go_wp2
  exact bodyPost_ret (results_cell_row rfl _ _ _ _ _ _ _ rfl (aA.out.all (.bool s) (.slice A n c) (.bool s') (.slice A' n' c')) Tryz.underlying35 rfl F_size) rfl (RetF.stored HF.out aA.out aB.out (by omega) _ _ _ _)
theorem fdivided_any (x y:Int) (s s':Bool) (A A':Option Addr) (n c n' c':Nat) (w:World) (hx:PI w s A n c x) (hy:PI w s' A' n' c' y) (hn:n≤100000) (hn':n'≤100000) (hy0:y≠0) :
  Calls Tryz.prog 95 #[.agg #[.bool s,.slice A n c],.agg #[.bool s',.slice A' n' c']] w (RetP (x / y) w):=by
 obtain ⟨W,hW⟩:∃ W,((w.alloc (.cells #[.bool s,.slice A n c] 33)).alloc (.cells #[.bool s',.slice A' n' c'] 33)).alloc (.cells #[.bool false,.slice none 0 0] 33)=W:=⟨_,rfl⟩
 have HK:=hJ (show Below w.heap.size w W by rw [←hW]; exact W3_k _ _ _ _ _ _ _ _)
 have HA:=hJ (show P2 33 W w.heap.size (.bool s) (.slice A n c) by rw [←hW]; exact W3_a _ _ _ _ _ _ _ _)
 have HB:=hJ (show P2 33 W (w.heap.size+1) (.bool s') (.slice A' n' c') by rw [←hW]; exact W3_b _ _ _ _ _ _ _ _)
 have HZ:=hJ (show P2 33 W (w.heap.size+1+1) (.bool false) (.slice none 0 0) by rw [←hW]; exact W3_z _ _ _ _ _ _ _ _)
 have HX:=hJ (PIo.new hx HK.out)
 have HY:=hJ (PIo.new hy HK.out)
 clear hx hy
 obtain ⟨b0,b1⟩:=HB.out.cells
 go_enter Tryz.func95,Tryz.ntmps95
 go_wp2_with fail
 refine (isone_any y s' A' n' c' W HY.out (by omega)).mono ?_
 rintro e w1 ⟨rfl,hb1⟩
 have aD:=hJ (bt HK.out hb1)
 have aI:=hJ (HA.out.new hb1)
 have aJ:=hJ (HB.out.new hb1)
 have aA:=hJ (HZ.out.new hb1)
 have aG:=hJ (PIo.new HX.out hb1)
 have aK:=hJ (PIo.new HY.out hb1)
 clear hb1 b0 b1 hW
 obtain ⟨a0,a1⟩:=aI.out.cells
 obtain ⟨b0,b1⟩:=aJ.out.cells
 by_cases h1:y=1
 ·have HE:=hJ (show x / y=x by rw [h1,Int.ediv_one])
  rw [h1,one_true,←h1]
  clear h1
  obtain ⟨z0,z1⟩:=aA.out.cells
  have f0:=aA.out.frozen 0
  have f1:=aA.out.frozen 1
  go_wp2
  exact bodyPost_ret (results_cell_row rfl _ _ _ _ _ _ _ rfl (aA.out.all (.bool s) (.slice A n c)) Tryz.underlying33 rfl W_size) rfl (RetP.stored (PIo.eq aG.out HE.out.symm) aA.out rfl rfl aD.out (by omega) _ _)
 ·rw [one_false h1]
  clear h1
  go_wp2_with fail
  refine (pdiv_any x y s s' A A' n c n' c' w1 aG.out aK.out hn hn' hy0).mono ?_
  rintro e w5 ⟨s5,A5,n5,c5,s6,A6,n6,c6,rfl,hr5,hr6,hb5⟩
  obtain ⟨x5,aH⟩:=nmz ((w5.alloc (.cells #[.bool s5,.slice A5 n5 c5] 33)).alloc (.cells #[.bool s6,.slice A6 n6 c6] 33))
  have aC:=hJ (show Below w5.heap.size w5 x5 by rw [←aH]; exact W2_k _ _ _ _ _ _)
  have aL:=hJ (show P2 33 x5 w5.heap.size (.bool s5) (.slice A5 n5 c5) by rw [←aH]; exact W2_a _ _ _ _ _ _)
  have aM:=hJ (PIo.new hr5 aC.out)
  have aB:=hJ ((aA.out.new hb5).new aC.out)
  have aO:=hJ (bt aD.out (bt hb5 aC.out))
  clear hr5 hr6 hb5 a0 a1 b0 b1
  obtain ⟨q0,q1⟩:=aL.out.cells
  obtain ⟨z0,z1⟩:=aB.out.cells
  have f0:=aB.out.frozen 0
  have f1:=aB.out.frozen 1
  go_wp2
  exact bodyPost_ret (results_cell_row rfl _ _ _ _ _ _ _ rfl (aB.out.all (.bool s5) (.slice A5 n5 c5)) Tryz.underlying33 rfl W_size) rfl (RetP.stored aM.out aB.out rfl rfl aO.out (by omega) _ _)
/-- The first error of a list, or 0. -/
def feV:List Int→Int
 | []=>0
 | e :: l=>if e=0 then feV l else e
theorem feV_drop {l:List Int} {i:Nat} (h:i < l.length):feV (l.drop i)=if l[i]=0 then feV (l.drop (i+1)) else l[i]:=by
 rw [List.drop_eq_getElem_cons h]; rfl
/-- A row of error codes. -/
def Codes (w:World) (B:Nat) (l:List Int):Prop:=∀ i (hi:i < l.length),w.cell? ⟨B,i,none⟩=some (.int .i64 l[i])
theorem ferror_any (l:List Int) (B k:Nat) (w:World) (hl:Codes w B l) (hk:l.length=k) (hk2:k≤1000) :
  Calls Tryz.prog 92 #[.slice (some ⟨B,0,none⟩) k k] w fun e w'=>e=.returned (.int .i64 (feV l))∧w=w':=by
 have HL:=hJ hl
 have HK:=hJ hk
 clear hl hk
 go_enter Tryz.func92,Tryz.ntmps92
 go_wp2_with fail
 go_loopw [7] (fun v wr=>w=wr∧∃ i:Nat,i≤k∧v=.int .i64 (i:Int)∧Hid (feV (l.drop i)=feV l)) (fun v _=>k - (intOf v).toNat)
 case atStart=>exact ⟨rfl,0,by omega,rfl,hJ rfl⟩
 case round =>
  obtain ⟨hw,i,hi,rfl,hf⟩:=hrel
  obtain rfl:=hw
  by_cases hlt:i < k
  ·have hli:i < l.length:=by rw [HK.out]; exact hlt
   have e0:=HL.out i hli
   have HD:=hJ (feV_drop hli)
   have h0i:(0:Int)≤(i:Int):=by omega
   have hik:(i:Int) < (k:Int):=by omega
   have hwi:IntKind.i64.wrap ((i:Int)+1)=(i:Int)+1:=IntWalk.i64_in _ (by omega)
   obtain ⟨x,hx⟩:∃ x,l[i]=x:=⟨_,rfl⟩
   rw [hx] at e0 HD
   clear hx
   by_cases hz:x=0
   ·subst hz
    go_wp2
    go_roundw
    case rel=>exact ⟨by first | rfl | trivial,i+1,by omega,by go_num,hJ (by rw [←hf.out,HD.out,if_pos rfl])⟩
    case measure=>simp [intOf]; omega
   have HZ:=hJ hz
   have hzb:(x == 0)=false:=by simp [hz]
   go_wp2
   go_ret
   exact ⟨by rw [←hf.out,HD.out,if_neg HZ.out]; rfl,rfl⟩
  ·obtain rfl:i=k:=by omega
   go_wp2
   go_ret
   exact ⟨by rw [←hf.out,List.drop_of_length_le (by rw [HK.out]; omega)]; rfl,rfl⟩
theorem fcommon_any (x y:Int) (s s':Bool) (A A':Option Addr) (n c n' c':Nat) (w:World) (hx:PI w s A n c x) (hy:PI w s' A' n' c' y) (hn:n≤200000) (hn':n'≤200000) :
  Calls Tryz.prog 94 #[.agg #[.bool s,.slice A n c],.agg #[.bool s',.slice A' n' c']] w (RetP ((Nat.gcd x.natAbs y.natAbs:Nat):Int) w):=by
 obtain ⟨W,hW⟩:∃ W,((w.alloc (.cells #[.bool s,.slice A n c] 33)).alloc (.cells #[.bool s',.slice A' n' c'] 33)).alloc (.cells #[.bool false,.slice none 0 0] 33)=W:=⟨_,rfl⟩
 have HK:=hJ (show Below w.heap.size w W by rw [←hW]; exact W3_k _ _ _ _ _ _ _ _)
 have HA:=hJ (show P2 33 W w.heap.size (.bool s) (.slice A n c) by rw [←hW]; exact W3_a _ _ _ _ _ _ _ _)
 have HB:=hJ (show P2 33 W (w.heap.size+1) (.bool s') (.slice A' n' c') by rw [←hW]; exact W3_b _ _ _ _ _ _ _ _)
 have HZ:=hJ (show P2 33 W (w.heap.size+1+1) (.bool false) (.slice none 0 0) by rw [←hW]; exact W3_z _ _ _ _ _ _ _ _)
 have HX:=hJ (PIo.new hx HK.out)
 have HY:=hJ (PIo.new hy HK.out)
 have HG:Hid (x=1∨y=1→((Nat.gcd x.natAbs y.natAbs:Nat):Int)=1):=hJ (by rintro (h | h) <;> rw [h] <;> simp)
 clear hx hy
 obtain ⟨G,hG⟩:∃ G,((Nat.gcd x.natAbs y.natAbs:Nat):Int)=G:=⟨_,rfl⟩
 have aM:=hJ hG
 rw [hG] at HG ⊢
 clear hG
 obtain ⟨a0,a1⟩:=HA.out.cells
 go_enter Tryz.func94,Tryz.ntmps94
 go_wp2_with fail
 refine (isone_any x s A n c W HX.out (by omega)).mono ?_
 rintro e w1 ⟨rfl,hb1⟩
 have aI:=hJ (bt HK.out hb1)
 have aO:=hJ (HA.out.new hb1)
 have aJ:=hJ (HB.out.new hb1)
 have aK:=hJ (HZ.out.new hb1)
 have aR:=hJ (PIo.new HX.out hb1)
 have aL:=hJ (PIo.new HY.out hb1)
 clear hb1 a0 a1 hW
 by_cases h1:x=1
 ·have aG:=hJ (HG.out (.inl h1))
  rw [h1,one_true]
  clear h1
  go_wp2_with fail
  refine (from_any 1 w1 (by decide)).mono ?_
  rintro e w2 ⟨s2,A2,n2,c2,rfl,hr2,hb2⟩
  have aC:=hJ (PIo.eq hr2 aG.out.symm)
  have aD:=hJ (bt aI.out hb2)
  have aB:=hJ (aK.out.new hb2)
  clear hr2 hb2
  obtain ⟨z0,z1⟩:=aB.out.cells
  have f0:=aB.out.frozen 0
  have f1:=aB.out.frozen 1
  go_wp2
  exact bodyPost_ret (results_cell_row rfl _ _ _ _ _ _ _ rfl (aB.out.all (.bool s2) (.slice A2 n2 c2)) Tryz.underlying33 rfl W_size) rfl (RetP.stored aC.out aB.out rfl rfl aD.out (by omega) _ _)
 ·rw [one_false h1]
  clear h1
  obtain ⟨b0,b1⟩:=aJ.out.cells
  go_wp2_with fail
  refine (isone_any y s' A' n' c' w1 aL.out (by omega)).mono ?_
  rintro e w2 ⟨rfl,hb2⟩
  have aD:=hJ (bt aI.out hb2)
  have aS:=hJ (aO.out.new hb2)
  have aT:=hJ (aJ.out.new hb2)
  have aB:=hJ (aK.out.new hb2)
  have aU:=hJ (PIo.new aR.out hb2)
  have aV:=hJ (PIo.new aL.out hb2)
  clear hb2 b0 b1
  by_cases h2:y=1
  ·have aG:=hJ (HG.out (.inr h2))
   rw [h2,one_true]
   clear h2
   go_wp2_with fail
   refine (from_any 1 w2 (by decide)).mono ?_
   rintro e w3 ⟨s2,A2,n2,c2,rfl,hr2,hb2⟩
   have aC:=hJ (PIo.eq hr2 aG.out.symm)
   have aH:=hJ (bt aD.out hb2)
   have aA:=hJ (aB.out.new hb2)
   clear hr2 hb2
   obtain ⟨z0,z1⟩:=aA.out.cells
   have f0:=aA.out.frozen 0
   have f1:=aA.out.frozen 1
   go_wp2
   exact bodyPost_ret (results_cell_row rfl _ _ _ _ _ _ _ rfl (aA.out.all (.bool s2) (.slice A2 n2 c2)) Tryz.underlying33 rfl W_size) rfl (RetP.stored aC.out aA.out rfl rfl aH.out (by omega) _ _)
  ·rw [one_false h2]
   clear h2
   obtain ⟨a0,a1⟩:=aS.out.cells
   obtain ⟨b0,b1⟩:=aT.out.cells
   go_wp2_with fail
   refine (pgcd_any x y s s' A A' n c n' c' w2 aU.out aV.out hn hn').mono ?_
   rw [aM.out]
   rintro e w3 ⟨s2,A2,n2,c2,rfl,hr2,hb2⟩
   have aC:=hJ hr2
   have aH:=hJ (bt aD.out hb2)
   have aA:=hJ (aB.out.new hb2)
   clear hr2 hb2 a0 a1 b0 b1
   obtain ⟨z0,z1⟩:=aA.out.cells
   have f0:=aA.out.frozen 0
   have f1:=aA.out.frozen 1
   go_wp2
   exact bodyPost_ret (results_cell_row rfl _ _ _ _ _ _ _ rfl (aA.out.all (.bool s2) (.slice A2 n2 c2)) Tryz.underlying33 rfl W_size) rfl (RetP.stored aC.out aA.out rfl rfl aH.out (by omega) _ _)
/-- A row of the program's integers. -/
def Pel (w:World) (B:Nat) (ys:List Int):Prop:=∀ i (hi:i < ys.length),∃ (s:Bool) (A:Option Addr) (n c:Nat),w.cell? ⟨B,i*2,none⟩=some (.bool s)∧w.cell? ⟨B,i*2+1,none⟩=some (.slice A n c)∧PI w s A n c ys[i]∧ys[i].natAbs < lim
theorem Pel.new {w w':World} {B:Nat} {ys:List Int} (h:Pel w B ys) (hb:Below w.heap.size w w'):Pel w' B ys:=by
 intro i hi
 obtain ⟨s,A,n,c,h1,h2,h3,h4⟩:=h i hi
 exact ⟨s,A,n,c,(hb.cell (World.block_lt_of_cell? w _ h1)).trans h1,(hb.cell (World.block_lt_of_cell? w _ h2)).trans h2,PIo.new h3 hb,h4⟩
/-- A row in a block of its own keeps where another block of no integers is written. -/
theorem Pel.box {w:World} {B:Nat} {ys:List Int} {t:TypeId} {g:Nat} {b0:Bool} {A0:Option Addr} {n0 c0:Nat} (h:Pel w B ys) (hp:P2 t w g (.bool b0) (.slice A0 n0 c0)) (hg:B≠g) (u0 u1:Value):Pel ((w.setCell ⟨g,0,none⟩ u0).setCell ⟨g,1,none⟩ u1) B ys:=by
 intro i hi
 obtain ⟨s,A,n,c,h1,h2,h3,h4⟩:=h i hi
 have far:∀ j v,w.cell? ⟨B,j,none⟩=some v→((w.setCell ⟨g,0,none⟩ u0).setCell ⟨g,1,none⟩ u1).cell? ⟨B,j,none⟩=some v:=fun j v hv=>by
  rw [World.cell?_setCell_far _ _ _ _ (fun e=>hg e.symm),World.cell?_setCell_far _ _ _ _ (fun e=>hg e.symm)]
  exact hv
 exact ⟨s,A,n,c,far _ _ h1,far _ _ h2,PIo.box h3 hp rfl rfl u0 u1,h4⟩
theorem pel_lit1 {w:World} {t:TypeId} {s:Bool} {A:Option Addr} {n c:Nat} {y:Int} (h:PI w s A n c y) (hy:y.natAbs < lim):Pel (w.alloc (.cells #[.bool s,.slice A n c] t)) w.heap.size [y]:=by
 have hb:Below w.heap.size w (w.alloc (.cells #[.bool s,.slice A n c] t)):=(Below.refl _ _).alloc (Nat.le_refl _) _
 have hh:=(P2.lit w t (.bool s) (.slice A n c)).cells
 intro i hi
 match i,hi with
 | 0,_=>exact ⟨s,A,n,c,hh.1,hh.2,PIo.new h hb,hy⟩
/-- The product of a list, with the first error. -/
def pvV (x:Int):List Int→Int
 | []=>x
 | y :: l=>if (x*y).natAbs < lim then pvV (x*y) l else 0
def pvC (x:Int):List Int→Int
 | []=>0
 | y :: l=>if (x*y).natAbs < lim then pvC (x*y) l else 4
theorem pv_one (x y:Int):pvV x [y]=outV (x*y)∧pvC x [y]=outC (x*y):=⟨rfl,rfl⟩
theorem outVC (z:Int):(z.natAbs < lim∧outV z=z∧outC z=0)∨(¬ z.natAbs < lim∧outV z=0∧outC z=4):=by
 unfold outV outC
 by_cases h:z.natAbs < lim
 ·exact .inl ⟨h,if_pos h,if_pos h⟩
 ·exact .inr ⟨h,if_neg h,if_neg h⟩
theorem fproductc_any (ys:List Int) (x:Int) (s:Bool) (A:Option Addr) (n c B k cap:Nat) (w:World) (hx:PI w s A n c x) (hxl:x.natAbs < lim) (hy:Pel w B ys) (hB:B < w.heap.size) (hk:ys.length=k) (hk2:k≤1000) :
  Calls Tryz.prog 91 #[.agg #[.bool s,.slice A n c],.slice (some ⟨B,0,none⟩) k cap] w (RetPE (pvV x ys) (pvC x ys) w):=by
 obtain ⟨W,hW⟩:∃ W,W2 33 w (.bool s) (.slice A n c) (.bool false) (.slice none 0 0)=W:=⟨_,rfl⟩
 have aO:(w.alloc (.cells #[.bool s,.slice A n c] 33)).alloc (.cells #[.bool false,.slice none 0 0] 33)=W:=hW
 have HK:=hJ (show Below w.heap.size w W by rw [←hW]; exact W2_k _ _ _ _ _ _)
 have HA:=hJ (show P2 33 W w.heap.size (.bool s) (.slice A n c) by rw [←hW]; exact W2_a _ _ _ _ _ _)
 have HZ:=hJ (show P2 33 W (w.heap.size+1) (.bool false) (.slice none 0 0) by rw [←hW]; exact W2_z _ _ _ _ _ _)
 have HX:=hJ (PIo.new hx HK.out)
 have HY:=hJ (hy.new HK.out)
 have aR:=hJ hxl
 have aG:=hJ hk
 have aH:=hJ (show B≠w.heap.size∧B≠w.heap.size+1 by omega)
 obtain ⟨h,hh⟩:∃ h,w.heap.size=h:=⟨_,rfl⟩
 have HH:=hJ hh
 rw [hh] at HA HZ aH
 clear hx hy hxl hk hW
 go_enter Tryz.func91,Tryz.ntmps91
 go_wp2_with fail
 clear aO hh
 go_loopw [11] (fun v wr=>∃ (i:Nat) (z:Int) (s:Bool) (A:Option Addr) (n c:Nat),i≤k∧v=.int .i64 (i:Int)∧P2 33 wr h (.bool s) (.slice A n c)∧PI wr s A n c z∧z.natAbs < lim∧P2 33 wr (h+1) (.bool false) (.slice none 0 0)∧Pel wr B ys∧Hid (pvV z (ys.drop i)=pvV x ys∧pvC z (ys.drop i)=pvC x ys)∧Below w.heap.size w wr) (fun v _=>k - (intOf v).toNat)
 case atStart=>exact ⟨0,x,s,A,n,c,by omega,rfl,HA.out,HX.out,aR.out,HZ.out,HY.out,hJ ⟨rfl,rfl⟩,HK.out⟩
 case round =>
  obtain ⟨i,z,s,A,n,c,hi,rfl,hp,hx,hl,hz,hy,hf,hb⟩:=hrel
  have HP:=hJ hp
  have HX:=hJ hx
  have HZ:=hJ hz
  have HY:=hJ hy
  have HB:=hJ hb
  have hn:=plim hx hl
  clear hp hx hl hz hy hb
  by_cases hlt:i < k
  ·have hli:i < ys.length:=by rw [aG.out]; exact hlt
   obtain ⟨s1,A1,n1,c1,e0,e1,h1,hl1⟩:=HY.out i hli
   have hn1:=plim h1 hl1
   have HD:=hJ (List.drop_eq_getElem_cons hli)
   obtain ⟨y,hyy⟩:∃ y,ys[i]=y:=⟨_,rfl⟩
   rw [hyy] at h1 hl1 HD
   rw [HD.out] at hf
   have aS:=hJ h1
   clear hyy HD h1 hl1
   have h0i:(0:Int)≤(i:Int):=by omega
   have hik:(i:Int) < (k:Int):=by omega
   have hwi:IntKind.i64.wrap ((i:Int)+1)=(i:Int)+1:=IntWalk.i64_in _ (by omega)
   obtain ⟨a0,a1⟩:=(HP.out.alloc (.cells #[.bool s1,.slice A1 n1 c1] 33)).cells
   obtain ⟨V,hV⟩:∃ V,wr.alloc (.cells #[.bool s1,.slice A1 n1 c1] 33)=V:=⟨_,rfl⟩
   have HV:=hJ (show Below wr.heap.size wr V by rw [←hV]; exact (Below.refl _ _).alloc (Nat.le_refl _) _)
   have HQ:=hJ (show P2 33 V wr.heap.size (.bool s1) (.slice A1 n1 c1) by rw [←hV]; exact P2.lit _ _ _ _)
   rw [hV] at a0 a1
   obtain ⟨q0,q1⟩:=HQ.out.cells
   go_wp2_with fail
   refine (pmul_any z y s s1 A A1 n c n1 c1 V (PIo.new HX.out HV.out) (PIo.new aS.out HV.out) (by omega) (by omega)).mono ?_
   rintro e w2 ⟨s2,A2,n2,c2,rfl,hr2,hb2⟩
   have aC:=hJ (bt HV.out hb2)
   have aI:=hJ hr2
   have aA:=hJ (HP.out.new aC.out)
   have aJ:=hJ (HZ.out.new aC.out)
   have aK:=hJ (HY.out.new aC.out)
   have aL:=hJ (bt HB.out aC.out)
   clear hr2 hb2 a0 a1 q0 q1 e0 e1 hV
   obtain ⟨a0,a1⟩:=aA.out.cells
   have f0:=aA.out.frozen 0
   have f1:=aA.out.frozen 1
   obtain ⟨U,hU⟩:∃ U,(w2.setCell ⟨h,0,none⟩ (.bool s2)).setCell ⟨h,1,none⟩ (.slice A2 n2 c2)=U:=⟨_,rfl⟩
   have aT:=hJ (show P2 33 U h (.bool s2) (.slice A2 n2 c2) by rw [←hU]; exact aA.out.all _ _)
   have aB:=hJ (show P2 33 U (h+1) (.bool false) (.slice none 0 0) by rw [←hU]; exact aJ.out.far2 (by omega) _ _)
   have aU:=hJ (show Pel U B ys by rw [←hU]; exact aK.out.box aA.out aH.out.1 _ _)
   have aD:=hJ (show PI U s2 A2 n2 c2 (outV (z*y)) by rw [←hU]; exact PIo.box aI.out aA.out rfl rfl _ _)
   have aM:=hJ (show Below w.heap.size w U by rw [←hU]; exact below_box aL.out (by rw [HH.out]; omega) _ _)
   clear aI aA aJ aK aL HP HX HZ HY HB HQ HV
   rcases outVC (z*y) with ⟨ho,hv,hc⟩ | ⟨ho,hv,hc⟩
   ·rw [hc]
    have aV:=hJ (PIo.eq aD.out hv)
    have HF:=hJ (show pvV (z*y) (ys.drop (i+1))=pvV x ys∧pvC (z*y) (ys.drop (i+1))=pvC x ys by
     have h1:=hf.out
     simp only [pvV,pvC,if_pos ho] at h1
     exact h1)
    have HO:=hJ ho
    clear ho hv hc hf aD
    go_wp2
    go_roundw
    case rel=>exact ⟨i+1,z*y,s2,A2,n2,c2,by omega,by go_num,aT.out,aV.out,HO.out,aB.out,aU.out,HF.out,aM.out⟩
    case measure=>simp [intOf]; omega
   rw [hc]
   have HF:=hJ (show (0:Int)=pvV x ys∧(4:Int)=pvC x ys by
    have h1:=hf.out
    simp only [pvV,pvC,if_neg ho] at h1
    exact h1)
   clear ho hv hc hf aD
   obtain ⟨z0,z1⟩:=aB.out.cells
   have g0:=aB.out.frozen 0
   have g1:=aB.out.frozen 1
   go_wp2
   exact bodyPost_ret (results_cell1 rfl _ _ _ _ _ _ _ rfl (aB.out.all (.bool false) (.slice none 0 0)) Tryz.underlying33 rfl W_size) rfl (by rw [←HF.out.1,←HF.out.2]; exact RetPE.stored (PI.zero U) aB.out rfl rfl aM.out (by rw [HH.out]; omega) _ _)
  ·obtain rfl:i=k:=by omega
   have HF:=hJ (show z=pvV x ys∧(0:Int)=pvC x ys by
    have h1:=hf.out
    rw [List.drop_of_length_le (by rw [aG.out]; omega)] at h1
    exact h1)
   clear hf
   obtain ⟨a0,a1⟩:=HP.out.cells
   obtain ⟨z0,z1⟩:=HZ.out.cells
   have g0:=HZ.out.frozen 0
   have g1:=HZ.out.frozen 1
   go_wp2
   exact bodyPost_ret (results_cell1 rfl _ _ _ _ _ _ _ rfl (HZ.out.all (.bool s) (.slice A n c)) Tryz.underlying33 rfl W_size) rfl (by rw [←HF.out.1,←HF.out.2]; exact RetPE.stored HX.out HZ.out rfl rfl HB.out (by rw [HH.out]; omega) _ _)
theorem fproduct_any (ys:List Int) (x:Int) (s:Bool) (A:Option Addr) (n c B k:Nat) (w:World) (hx:PI w s A n c x) (hxl:x.natAbs < lim) (hy:Pel w B ys) (hB:B < w.heap.size) (hk:ys.length=k) (hk2:k≤1000) :
  Calls Tryz.prog 91 #[.agg #[.bool s,.slice A n c],.slice (some ⟨B,0,none⟩) k k] w (RetPE (pvV x ys) (pvC x ys) w):=fproductc_any ys x s A n c B k k w hx hxl hy hB hk hk2
theorem outV_lim (x:Int):(outV x).natAbs < lim:=by
 unfold outV
 split
 ·assumption
 ·rw [lim_two]; exact Nat.pow_pos (by decide)
theorem dn_lim {q:Int} (h:q.natAbs < lim):(dn q).natAbs < lim:=by
 unfold dn
 split
 ·rw [lim_two]; exact Nat.pow_pos (by decide)
 ·exact h
theorem wpAnyH_name {P:Program} {md:Region.Mode} {ops:Array Oper} {Q:Exit→Act→World→Prop} {S:World→Prop} {fuel:Nat} {L:Array Bool} {a:Act} {w:World} (h:∀ F:Nat→Array Bool→Act→World→Prop,F=wpAnyH P md ops Q S→∀ a0,a0=a→∀ L0,L0=L→F fuel L0 a0 w):wpAnyH P md ops Q S fuel L a w:=h _ rfl _ rfl _ rfl
theorem wpAnyH_cast {P:Program} {md:Region.Mode} {ops:Array Oper} {Q:Exit→Act→World→Prop} {S:World→Prop} {fuel:Nat} {L L':Array Bool} {a:Act} {w:World} (e:L=L') (h:wpAnyH P md ops Q S fuel L' a w):wpAnyH P md ops Q S fuel L a w:=e ▸ h
theorem codes_lit2 {w:World} {t:TypeId} (a b:Int):Codes (w.alloc (.cells #[.int .i64 a,.int .i64 b] t)) w.heap.size [a,b]:=by
 have hh:=(P2.lit w t (.int .i64 a) (.int .i64 b)).cells
 intro i hi
 match i,hi with
 | 0,_=>exact hh.1
 | 1,_=>exact hh.2
theorem cmpI_lt' {a b:Int} (h:a < b):cmpI a b = -1:=cmpI_less h
theorem cmpI_gt' {a b:Int} (h:b < a):cmpI a b=1:=by unfold cmpI; rw [if_neg (by omega),if_pos h]
theorem cmpI_add {a b c:Int}:cmpI (c+a) (c+b)=cmpI a b:=by
 unfold cmpI
 split <;> split <;> (try split) <;> (try split) <;> omega
theorem cmpI_mul {a b c:Int} (hc:0 < c):cmpI (a*c) (b*c)=cmpI a b:=by
 rcases Int.lt_trichotomy a b with h | h | h
 ·rw [cmpI_lt' h,cmpI_lt' (Int.mul_lt_mul_of_pos_right h hc)]
 ·rw [h,cmpI_same rfl,cmpI_same rfl]
 ·rw [cmpI_gt' h,cmpI_gt' (Int.mul_lt_mul_of_pos_right h hc)]
theorem PF.box4 {w:World} {s s':Bool} {A A':Option Addr} {n c n' c':Nat} {p q:Int} {t:TypeId} {B:Nat} {b0 b1:Bool} {A0 A1:Option Addr} {n0 c0 n1 c1:Nat} (h:PF w s A n c s' A' n' c' p q) (hp:P4 t w B (.bool b0) (.slice A0 n0 c0) (.bool b1) (.slice A1 n1 c1)) (u0 u1 u2 u3:Value):PF ((((w.setCell ⟨B,0,none⟩ u0).setCell ⟨B,1,none⟩ u1).setCell ⟨B,2,none⟩ u2).setCell ⟨B,3,none⟩ u3) s A n c s' A' n' c' p q:=⟨PIo.box4 h.1 hp rfl rfl rfl rfl u0 u1 u2 u3,PIo.box4 h.2 hp rfl rfl rfl rfl u0 u1 u2 u3⟩
/-- The divisor, with the denominator's sign. -/
def mkD (p q:Int):Int:=if q < 0 then -((Nat.gcd p.natAbs q.natAbs:Nat):Int) else ((Nat.gcd p.natAbs q.natAbs:Nat):Int)
def mkP (p q:Int):Int:=if q=0 then 0 else p / mkD p q
def mkQ (p q:Int):Int:=if q=0 then 1 else q / mkD p q
def mkC (q:Int):Int:=if q=0 then 1 else 0
theorem mk_zero (p:Int):mkP p 0=0∧mkQ p 0=1∧mkC 0=1:=⟨rfl,rfl,rfl⟩
theorem mk_gcd {p q:Int} (hq:q≠0) (_:p.natAbs < lim) (hl:q.natAbs < lim):((Nat.gcd p.natAbs q.natAbs:Nat):Int)≠0∧0 < ((Nat.gcd p.natAbs q.natAbs:Nat):Int)∧((Nat.gcd p.natAbs q.natAbs:Nat):Int).natAbs < lim∧True:=by
 have h0:0 < q.natAbs:=by omega
 have h1:=Nat.gcd_pos_of_pos_right p.natAbs h0
 have h2:=Nat.gcd_le_right p.natAbs h0
 refine ⟨by omega,by omega,?_,trivial⟩
 rw [Int.natAbs_natCast]
 omega
theorem mkD_abs (p q:Int):(mkD p q).natAbs=Nat.gcd p.natAbs q.natAbs:=by
 unfold mkD
 split <;> simp
theorem mkD_ne {p q:Int} (hq:q≠0):mkD p q≠0:=by
 have h1:=Nat.gcd_pos_of_pos_right p.natAbs (show 0 < q.natAbs by omega)
 have:=mkD_abs p q
 intro e
 rw [e] at this
 simp at this
 omega
theorem mkD_lim {p q:Int} (hq:q≠0) (_:p.natAbs < lim) (hl:q.natAbs < lim):(mkD p q).natAbs < lim:=by
 rw [mkD_abs]
 have h2:=Nat.gcd_le_right p.natAbs (show 0 < q.natAbs by omega)
 omega
theorem mk_lim {p q:Int} (hq:q≠0) (hp:p.natAbs < lim) (hl:q.natAbs < lim):(mkP p q).natAbs < lim∧(mkQ p q).natAbs < lim:=by
 rw [mkP,mkQ,if_neg hq,if_neg hq]
 exact ⟨Nat.lt_of_le_of_lt (Int.natAbs_ediv_le_natAbs _ _) hp,Nat.lt_of_le_of_lt (Int.natAbs_ediv_le_natAbs _ _) hl⟩
theorem cmp_cases (q:Int):(q < 0∧cmpI q 0 < 0)∨(¬ q < 0∧¬ cmpI q 0 < 0):=by
 by_cases h:q < 0
 ·exact .inl ⟨h,by rw [cmpI_less h]; decide⟩
 ·refine .inr ⟨h,?_⟩
  have:=cmpI_ge (a:=q) (by omega)
  omega
theorem fmake_any (p q:Int) (s s':Bool) (A A':Option Addr) (n c n' c':Nat) (w:World) (hx:PI w s A n c p) (hy:PI w s' A' n' c' q) (hlp:p.natAbs < lim) (hlq:q.natAbs < lim) :
  Calls Tryz.prog 83 #[.agg #[.bool s,.slice A n c],.agg #[.bool s',.slice A' n' c']] w (RetFE (mkP p q) (mkQ p q) (mkC q) w):=by
 have bJ:=hJ hlq
 have bK:=hJ hlp
 obtain ⟨W,hW⟩:∃ W,((w.alloc (.cells #[.bool s,.slice A n c] 33)).alloc (.cells #[.bool s',.slice A' n' c'] 33)).alloc (.cells #[.bool false,.slice none 0 0,.bool false,.slice none 0 0] 35)=W:=⟨_,rfl⟩
 have HK:=hJ (show Below w.heap.size w W by rw [←hW]; exact W224_k _ _ _ _ _ _ _ _ _ _ _)
 have HA:=hJ (show P2 33 W w.heap.size (.bool s) (.slice A n c) by rw [←hW]; exact W224_a _ _ _ _ _ _ _ _ _ _ _)
 have HB:=hJ (show P2 33 W (w.heap.size+1) (.bool s') (.slice A' n' c') by rw [←hW]; exact W224_b _ _ _ _ _ _ _ _ _ _ _)
 have HZ:=hJ (show P4 35 W (w.heap.size+1+1) (.bool false) (.slice none 0 0) (.bool false) (.slice none 0 0) by rw [←hW]; exact W224_z _ _ _ _ _ _ _ _ _ _ _)
 have HX:=hJ (PIo.new hx HK.out)
 have HY:=hJ (PIo.new hy HK.out)
 have hn:=plim hx hlp
 have hn':=plim hy hlq
 obtain ⟨h,hh⟩:∃ h,w.heap.size=h:=⟨_,rfl⟩
 have HH:=hJ hh
 rw [hh] at HA HB HZ
 clear hx hy hlp hlq
 obtain ⟨b0,b1⟩:=HB.out.cells
 go_enter Tryz.func83,Tryz.ntmps83
 go_wp2_with fail
 clear hW hh
 refine (sign_any q s' A' n' c' W HY.out (by omega)).mono ?_
 by_cases hq0:q=0
 ·rw [hq0,cmpI_zz]
  rintro e w1 ⟨rfl,hb1⟩
  have bL:=hJ (bt HK.out hb1)
  have aI:=hJ (HZ.out.new hb1)
  have bZ:=hJ (mk_zero p)
  clear hb1 b0 b1
  obtain ⟨z0,z1,z2,z3⟩:=aI.out.cells
  have f0:=aI.out.frozen 0
  have f1:=aI.out.frozen 1
  have f2:=aI.out.frozen 2
  have f3:=aI.out.frozen 3
  go_wp2
  exact bodyPost_ret (results_cell1 rfl _ _ _ _ _ _ _ rfl (aI.out.all (.bool false) (.slice none 0 0) (.bool false) (.slice none 0 0)) Tryz.underlying35 rfl F_size) rfl (by rw [hq0,bZ.out.1,bZ.out.2.1,bZ.out.2.2]; exact RetFE.stored (p:=0) (q:=1) ⟨PI.zero w1,PI.zero w1⟩ aI.out bL.out (by rw [HH.out]; omega) _ _ _ _)
 have HC:=hJ (cmpI_zero (y:=q) hq0)
 have aH:=hJ hq0
 clear hq0
 obtain ⟨u,hu⟩:∃ u,cmpI q 0=u:=⟨_,rfl⟩
 have HU:=hJ hu
 rw [hu] at HC ⊢
 have hc:=HC.out
 rintro e w1 ⟨rfl,hb1⟩
 have bL:=hJ (bt HK.out hb1)
 have cA:=hJ (HA.out.new hb1)
 have cB:=hJ (HB.out.new hb1)
 have aI:=hJ (HZ.out.new hb1)
 have cC:=hJ (PIo.new HX.out hb1)
 have cD:=hJ (PIo.new HY.out hb1)
 clear hb1 b0 b1 hu HA HB HZ HX HY HK HC
 obtain ⟨a0,a1⟩:=cA.out.cells
 obtain ⟨b0,b1⟩:=cB.out.cells
 go_wp2_with fail
 clear hc
 refine (fcommon_any p q s s' A A' n c n' c' w1 cC.out cD.out (by omega) (by omega)).mono ?_
 obtain ⟨G,hG⟩:∃ G,((Nat.gcd p.natAbs q.natAbs:Nat):Int)=G:=⟨_,rfl⟩
 have cE:=hJ hG
 rw [hG]
 clear hG
 rintro e w2 ⟨s2,A2,n2,c2,rfl,hr2,hb2⟩
 obtain ⟨x2,bY⟩:=nmz (w2.alloc (.cells #[.bool s2,.slice A2 n2 c2] 33))
 have bB:=hJ (show Below w1.heap.size w1 x2 by rw [←bY]; exact hb2.alloc hb2.size _)
 have cF:=hJ (show P2 33 x2 w2.heap.size (.bool s2) (.slice A2 n2 c2) by rw [←bY]; exact P2.lit _ _ _ _)
 have cT:=hJ (show PI x2 s2 A2 n2 c2 G by rw [←bY]; exact PIo.new hr2 ((Below.refl _ _).alloc (Nat.le_refl _) _))
 have cU:=hJ (mk_gcd (p:=p) aH.out bK.out bJ.out)
 rw [cE.out] at cU
 obtain ⟨gd,hgd⟩:∃ g,w2.heap.size=g:=⟨_,rfl⟩
 have cG:=hJ (show w.heap.size≤gd∧gd≠h+1+1 by
  have h1:=aI.out.lt
  have h2:=hb2.size
  have h3:=bL.out.size
  rw [←hgd]
  omega)
 rw [hgd] at cF
 have cH:=hJ (show h+1+1 < gd by
  have h1:=aI.out.lt
  have h2:=hb2.size
  rw [←hgd]
  omega)
 have cV:=hJ (cA.out.new bB.out)
 have cI:=hJ (cB.out.new bB.out)
 have cW:=hJ (aI.out.new bB.out)
 have cX:=hJ (PIo.new cC.out bB.out)
 have cJ:=hJ (PIo.new cD.out bB.out)
 have cY:=hJ (bt bL.out bB.out)
 clear hr2 hb2 a0 a1 b0 b1 cA cB aI cC cD bL bB
 obtain ⟨b0,b1⟩:=cI.out.cells
 go_wp2_with fail
 clear bY hgd
 refine (sign_any q s' A' n' c' x2 cJ.out (by omega)).mono ?_
 rw [HU.out]
 rintro e w3 ⟨rfl,hb3⟩
 have cK:=hJ (bt cY.out hb3)
 have cL:=hJ (cV.out.new hb3)
 have cM:=hJ (cI.out.new hb3)
 have bH:=hJ (cF.out.new hb3)
 have cN:=hJ (cW.out.new hb3)
 have cO:=hJ (PIo.new cX.out hb3)
 have cP:=hJ (PIo.new cJ.out hb3)
 have bM:=hJ (PIo.new cT.out hb3)
 clear hb3 b0 b1 cV cI cF cW cX cJ cT cY
 rcases cmp_cases q with ⟨hneg,hcu⟩ | ⟨hneg,hcu⟩
 ·have cQ:=hJ hneg
  have hlt:u < 0:=by rw [←HU.out]; exact hcu
  obtain ⟨d0,d1⟩:=bH.out.cells
  have f0:=bH.out.frozen 0
  have f1:=bH.out.frozen 1
  go_wp2_with fail
  refine (pneg_any G s2 A2 n2 c2 w3 bM.out (by have:=plim bM.out cU.out.2.2.1; omega)).mono ?_
  rintro e w4 ⟨s4,A4,n4,c4,rfl,hr4,hb4⟩
  have bA:=hJ (bH.out.new hb4)
  have hg40:=bA.out.frozen 0
  have hg41:=bA.out.frozen 1
  obtain ⟨hc40,hc41⟩:=bA.out.cells
  obtain ⟨x4,aJ⟩:=nmz ((w4.setCell ⟨gd,0,none⟩ (.bool s4)).setCell ⟨gd,1,none⟩ (.slice A4 n4 c4))
  have cZ:=hJ (show Below w.heap.size w x4 by rw [←aJ]; exact below_box (bt cK.out hb4) cG.out.1 _ _)
  have dA:=hJ (show P2 33 x4 h (.bool s) (.slice A n c) by rw [←aJ]; exact (cL.out.new hb4).far2 (show h≠gd by have:=cH.out; omega) _ _)
  have dB:=hJ (show P2 33 x4 (h+1) (.bool s') (.slice A' n' c') by rw [←aJ]; exact (cM.out.new hb4).far2 (show h+1≠gd by have:=cH.out; omega) _ _)
  have dD:=hJ (show P2 33 x4 gd (.bool s4) (.slice A4 n4 c4) by rw [←aJ]; exact bA.out.all _ _)
  have dE:=hJ (show P4 35 x4 (h+1+1) (.bool false) (.slice none 0 0) (.bool false) (.slice none 0 0) by rw [←aJ]; exact (cN.out.new hb4).far2 (show h+1+1≠gd by have:=cH.out; omega) _ _)
  have dG:=hJ (show PI x4 s A n c p by rw [←aJ]; exact PIo.box (PIo.new cO.out hb4) bA.out rfl rfl _ _)
  have dH:=hJ (show PI x4 s' A' n' c' q by rw [←aJ]; exact PIo.box (PIo.new cP.out hb4) bA.out rfl rfl _ _)
  have cR:=hJ (show PI x4 s4 A4 n4 c4 (-G) by rw [←aJ]; exact PIo.box hr4 bA.out rfl rfl _ _)
  clear hr4 hb4 d0 d1 f0 f1 cL cM bH cN cO cP bM cK bA
  go_wp2_with fail
  clear aJ hg40 hg41 hc40 hc41 hlt
  obtain ⟨d,hd⟩:∃ d, -G=d:=⟨_,rfl⟩
  have aK:=hJ (show mkD p q=d by rw [←hd,mkD,if_pos cQ.out,cE.out])
  rw [hd] at cR
  clear hd
  have aB:=hJ (show d≠0 by rw [←aK.out]; exact mkD_ne aH.out)
  have bN:=hJ (show p / d=mkP p q by rw [mkP,if_neg aH.out,aK.out])
  have bO:=hJ (show q / d=mkQ p q by rw [mkQ,if_neg aH.out,aK.out])
  have bP:=hJ (show mkC q=0 from if_neg aH.out)
  have bQ:=hJ (show (mkQ p q).natAbs < lim from (mk_lim aH.out bK.out bJ.out).2)
  have hnd:n4≤512:=plim cR.out (by rw [←aK.out]; exact mkD_lim aH.out bK.out bJ.out)
  obtain ⟨P,hP⟩:=nmz (mkP p q)
  obtain ⟨Q,hQ⟩:=nmz (mkQ p q)
  rw [hP] at bN
  rw [hQ] at bO bQ
  have bC:=hJ (And.intro hP (And.intro hQ bP.out))
  clear hP hQ bP
  obtain ⟨v0,hv0⟩:=nmz (World.drew x4)
  have aB:=hJ (show Below x4.heap.size x4 v0 by rw [←hv0]; exact (Below.refl _ _).drew)
  have bD:=hJ (bt cZ.out aB.out)
  have P_0:=hJ (PIo.new dG.out aB.out)
  have Q_0:=hJ (PIo.new dH.out aB.out)
  have D_0:=hJ (PIo.new cR.out aB.out)
  have aL:=hJ (dA.out.new aB.out)
  have aM:=hJ (dB.out.new aB.out)
  have aO:=hJ (dD.out.new aB.out)
  have bR:=hJ (dE.out.new aB.out)
  refine wp_region_held_drew (S:=(fun w':World=>w'.cell? ⟨h,0,none⟩=some (.bool s)∧w'.cell? ⟨h,1,none⟩=some (.slice A n c)∧w'.cell? ⟨(h+1),0,none⟩=some (.bool s')∧w'.cell? ⟨(h+1),1,none⟩=some (.slice A' n' c')∧w'.cell? ⟨gd,0,none⟩=some (.bool s4)∧w'.cell? ⟨gd,1,none⟩=some (.slice A4 n4 c4)∧Below w.heap.size w w')) (by kernel_rfl) ?_ (fun hHeld=>?_)
  ·rw [hv0]
   exact ⟨aL.out.cells.1,aL.out.cells.2,aM.out.cells.1,aM.out.cells.2,aO.out.cells.1,aO.out.cells.2,bD.out⟩
  rw [hv0] at hHeld ⊢
  clear hv0 aB
  refine tq 0 ?_
  refine tq 1 ?_
  refine tq 3 ?_
  refine tq 4 ?_
  try simp only [PT]
  refine ryy [2] ?_
  refine .cons rfl (fun K hK=>?_) .nil
  go_simp
  go_at_call_of 95 (#[Value.agg #[.bool s,.slice A n c],Value.agg #[.bool s4,.slice A4 n4 c4]])
  refine (fdivided_any p d s s4 A A4 n c n4 c4 v0 (P_0.out) (D_0.out) (by omega) (by omega) aB.out).mono ?_
  rintro e v1 ⟨s5,A5,n5,c5,rfl,hr,hk⟩
  have R5_1:=hJ (PIo.eq hr bN.out)
  have aG:=hJ hk
  go_wp2_with fail
  have bE:=hJ (bt bD.out aG.out)
  have P_1:=hJ (PIo.new P_0.out aG.out)
  have Q_1:=hJ (PIo.new Q_0.out aG.out)
  have D_1:=hJ (PIo.new D_0.out aG.out)
  have aR:=hJ (aL.out.new aG.out)
  have aS:=hJ (aM.out.new aG.out)
  have aT:=hJ (aO.out.new aG.out)
  have bS:=hJ (bR.out.new aG.out)
  clear hHeld
  refine hK.out _ _ (⟨aR.out.cells.1,aR.out.cells.2,aS.out.cells.1,aS.out.cells.2,aT.out.cells.1,aT.out.cells.2,bE.out⟩) (fun hHeld=>?_)
  clear hK K hk aG hr bD P_0 Q_0 D_0 aL aM aO bR
  try simp only [PT]
  refine ryy [5] ?_
  refine .cons rfl (fun K hK=>?_) .nil
  go_simp
  go_at_call_of 95 (#[Value.agg #[.bool s',.slice A' n' c'],Value.agg #[.bool s4,.slice A4 n4 c4]])
  refine (fdivided_any q d s' s4 A' A4 n' c' n4 c4 v1 (Q_1.out) (D_1.out) (by omega) (by omega) aB.out).mono ?_
  rintro e v2 ⟨s6,A6,n6,c6,rfl,hr,hk⟩
  have R6_2:=hJ (PIo.eq hr bO.out)
  have aD:=hJ hk
  go_wp2_with fail
  have bF:=hJ (bt bE.out aD.out)
  have P_2:=hJ (PIo.new P_1.out aD.out)
  have Q_2:=hJ (PIo.new Q_1.out aD.out)
  have D_2:=hJ (PIo.new D_1.out aD.out)
  have R5_2:=hJ (PIo.new R5_1.out aD.out)
  have aU:=hJ (aR.out.new aD.out)
  have aV:=hJ (aS.out.new aD.out)
  have aW:=hJ (aT.out.new aD.out)
  have bT:=hJ (bS.out.new aD.out)
  clear hHeld
  refine hK.out _ _ (⟨aU.out.cells.1,aU.out.cells.2,aV.out.cells.1,aV.out.cells.2,aW.out.cells.1,aW.out.cells.2,bF.out⟩) (fun hHeld=>?_)
  clear hK K hk aD hr bE P_1 Q_1 D_1 R5_1 aR aS aT bS
  try simp only [PT]
  refine ryy [6] ?_
  refine .cons rfl (fun K hK=>?_) .nil
  go_simp
  go_at_call 96
  refine (flowest_any P Q s5 s6 A5 A6 n5 c5 n6 c6 v2 (R5_2.out) (R6_2.out) (by have:=plim R6_2.out bQ.out; omega)).mono ?_
  rintro e v3 ⟨s7,A7,n7,c7,s8,A8,n8,c8,rfl,hr,hk⟩
  have R7_3:=hJ (hr)
  have aC:=hJ hk
  go_wp2_with fail
  have bG:=hJ (bt bF.out aC.out)
  have P_3:=hJ (PIo.new P_2.out aC.out)
  have Q_3:=hJ (PIo.new Q_2.out aC.out)
  have D_3:=hJ (PIo.new D_2.out aC.out)
  have R5_3:=hJ (PIo.new R5_2.out aC.out)
  have R6_3:=hJ (PIo.new R6_2.out aC.out)
  have aX:=hJ (aU.out.new aC.out)
  have aY:=hJ (aV.out.new aC.out)
  have aZ:=hJ (aW.out.new aC.out)
  have aA:=hJ (bT.out.new aC.out)
  clear hHeld
  refine hK.out _ _ (⟨aX.out.cells.1,aX.out.cells.2,aY.out.cells.1,aY.out.cells.2,aZ.out.cells.1,aZ.out.cells.2,bG.out⟩) (fun hHeld=>?_)
  clear hK K hk aC hr bF P_2 Q_2 D_2 R5_2 R6_2 aU aV aW bT
  try simp only [PT]
  refine ryy [7] ?_
  refine .cons rfl (fun K hK=>?_) .nil
  obtain ⟨z0,z1,z2,z3⟩:=aA.out.cells
  have y0:=aA.out.frozen 0
  have y1:=aA.out.frozen 1
  have y2:=aA.out.frozen 2
  have y3:=aA.out.frozen 3
  have z9:=aA.out.lt
  go_simp
  obtain ⟨v4,hV⟩:=nmz (World.setCell (World.setCell (World.setCell (World.setCell v3 ⟨(h+1+1),0,none⟩ (.bool s7)) ⟨(h+1+1),1,none⟩ (.slice A7 n7 c7)) ⟨(h+1+1),2,none⟩ (.bool s8)) ⟨(h+1+1),3,none⟩ (.slice A8 n8 c8))
  rw [hV]
  have bU:=hJ (show Below w.heap.size w v4 by rw [←hV]; exact below_box4 bG.out (by rw [HH.out]; omega) _ _ _ _)
  have P_4:=hJ (show PI v4 s A n c (p) by rw [←hV]; exact PIo.box4 (P_3.out) (aA.out) rfl rfl rfl rfl (.bool s7) (.slice A7 n7 c7) (.bool s8) (.slice A8 n8 c8))
  have Q_4:=hJ (show PI v4 s' A' n' c' (q) by rw [←hV]; exact PIo.box4 (Q_3.out) (aA.out) rfl rfl rfl rfl (.bool s7) (.slice A7 n7 c7) (.bool s8) (.slice A8 n8 c8))
  have D_4:=hJ (show PI v4 s4 A4 n4 c4 (d) by rw [←hV]; exact PIo.box4 (D_3.out) (aA.out) rfl rfl rfl rfl (.bool s7) (.slice A7 n7 c7) (.bool s8) (.slice A8 n8 c8))
  have R5_4:=hJ (show PI v4 s5 A5 n5 c5 (P) by rw [←hV]; exact PIo.box4 (R5_3.out) (aA.out) rfl rfl rfl rfl (.bool s7) (.slice A7 n7 c7) (.bool s8) (.slice A8 n8 c8))
  have R6_4:=hJ (show PI v4 s6 A6 n6 c6 (Q) by rw [←hV]; exact PIo.box4 (R6_3.out) (aA.out) rfl rfl rfl rfl (.bool s7) (.slice A7 n7 c7) (.bool s8) (.slice A8 n8 c8))
  have R7_4:=hJ (show PF v4 s7 A7 n7 c7 s8 A8 n8 c8 (P) (Q) by rw [←hV]; exact PF.box4 (R7_3.out) (aA.out) (.bool s7) (.slice A7 n7 c7) (.bool s8) (.slice A8 n8 c8))
  have bV:=hJ (show P2 33 v4 h (.bool s) (.slice A n c) by rw [←hV]; exact aX.out.far4 (show h≠(h+1+1) from (by omega)) (.bool s7) (.slice A7 n7 c7) (.bool s8) (.slice A8 n8 c8))
  have bW:=hJ (show P2 33 v4 (h+1) (.bool s') (.slice A' n' c') by rw [←hV]; exact aY.out.far4 (show (h+1)≠(h+1+1) from (by omega)) (.bool s7) (.slice A7 n7 c7) (.bool s8) (.slice A8 n8 c8))
  have bX:=hJ (show P2 33 v4 gd (.bool s4) (.slice A4 n4 c4) by rw [←hV]; exact aZ.out.far4 (show gd≠(h+1+1) from cG.out.2) (.bool s7) (.slice A7 n7 c7) (.bool s8) (.slice A8 n8 c8))
  have cS:=hJ (show P4 35 v4 (h+1+1) (.bool s7) (.slice A7 n7 c7) (.bool s8) (.slice A8 n8 c8) by rw [←hV]; exact aA.out.all (.bool s7) (.slice A7 n7 c7) (.bool s8) (.slice A8 n8 c8))
  clear hHeld
  refine hK.out _ _ (⟨bV.out.cells.1,bV.out.cells.2,bW.out.cells.1,bW.out.cells.2,bX.out.cells.1,bX.out.cells.2,bU.out⟩) (fun hHeld=>?_)
  clear hK K hV z9 z0 z1 z2 z3 y0 y1 y2 y3 bG P_3 Q_3 D_3 R5_3 R6_3 R7_3 aX aY aZ aA
  refine tq 8 ?_
  try simp only [PT]
  refine wpAnyH_done (by kernel_rfl) ?_ _
  clear hHeld
  go_wp2
  exact bodyPost_ret (results_cell1 rfl _ _ _ _ _ _ _ rfl (cS.out) Tryz.underlying35 rfl F_size) rfl (by rw [bC.out.1,bC.out.2.1,bC.out.2.2]; exact ⟨s7,A7,n7,c7,s8,A8,n8,c8,rfl,R7_4.out,bU.out⟩)
 ·have cQ:=hJ hneg
  have hlt:¬ u < 0:=by rw [←HU.out]; exact hcu
  go_wp2_with fail
  clear hlt
  have aK:=hJ (show mkD p q=G by rw [mkD,if_neg (by have:=cQ.out; omega),cE.out])
  have aB:=hJ (show G≠0 by rw [←aK.out]; exact mkD_ne aH.out)
  have bN:=hJ (show p / G=mkP p q by rw [mkP,if_neg aH.out,aK.out])
  have bO:=hJ (show q / G=mkQ p q by rw [mkQ,if_neg aH.out,aK.out])
  have bP:=hJ (show mkC q=0 from if_neg aH.out)
  have bQ:=hJ (show (mkQ p q).natAbs < lim from (mk_lim aH.out bK.out bJ.out).2)
  have hnd:n2≤512:=plim bM.out (by rw [←aK.out]; exact mkD_lim aH.out bK.out bJ.out)
  obtain ⟨P,hP⟩:=nmz (mkP p q)
  obtain ⟨Q,hQ⟩:=nmz (mkQ p q)
  rw [hP] at bN
  rw [hQ] at bO bQ
  have bC:=hJ (And.intro hP (And.intro hQ bP.out))
  clear hP hQ bP
  obtain ⟨v0,hv0⟩:=nmz (World.drew w3)
  have aB:=hJ (show Below w3.heap.size w3 v0 by rw [←hv0]; exact (Below.refl _ _).drew)
  have bD:=hJ (bt cK.out aB.out)
  have P_0:=hJ (PIo.new cO.out aB.out)
  have Q_0:=hJ (PIo.new cP.out aB.out)
  have D_0:=hJ (PIo.new bM.out aB.out)
  have aL:=hJ (cL.out.new aB.out)
  have aM:=hJ (cM.out.new aB.out)
  have aO:=hJ (bH.out.new aB.out)
  have bR:=hJ (cN.out.new aB.out)
  refine wp_region_held_drew (S:=(fun w':World=>w'.cell? ⟨h,0,none⟩=some (.bool s)∧w'.cell? ⟨h,1,none⟩=some (.slice A n c)∧w'.cell? ⟨(h+1),0,none⟩=some (.bool s')∧w'.cell? ⟨(h+1),1,none⟩=some (.slice A' n' c')∧w'.cell? ⟨gd,0,none⟩=some (.bool s2)∧w'.cell? ⟨gd,1,none⟩=some (.slice A2 n2 c2)∧Below w.heap.size w w')) (by kernel_rfl) ?_ (fun hHeld=>?_)
  ·rw [hv0]
   exact ⟨aL.out.cells.1,aL.out.cells.2,aM.out.cells.1,aM.out.cells.2,aO.out.cells.1,aO.out.cells.2,bD.out⟩
  rw [hv0] at hHeld ⊢
  clear hv0 aB
  refine tq 0 ?_
  refine tq 1 ?_
  refine tq 3 ?_
  refine tq 4 ?_
  try simp only [PT]
  refine ryy [2] ?_
  refine .cons rfl (fun K hK=>?_) .nil
  go_simp
  go_at_call_of 95 (#[Value.agg #[.bool s,.slice A n c],Value.agg #[.bool s2,.slice A2 n2 c2]])
  refine (fdivided_any p G s s2 A A2 n c n2 c2 v0 (P_0.out) (D_0.out) (by omega) (by omega) aB.out).mono ?_
  rintro e v1 ⟨s5,A5,n5,c5,rfl,hr,hk⟩
  have R5_1:=hJ (PIo.eq hr bN.out)
  have aG:=hJ hk
  go_wp2_with fail
  have bE:=hJ (bt bD.out aG.out)
  have P_1:=hJ (PIo.new P_0.out aG.out)
  have Q_1:=hJ (PIo.new Q_0.out aG.out)
  have D_1:=hJ (PIo.new D_0.out aG.out)
  have aR:=hJ (aL.out.new aG.out)
  have aS:=hJ (aM.out.new aG.out)
  have aT:=hJ (aO.out.new aG.out)
  have bS:=hJ (bR.out.new aG.out)
  clear hHeld
  refine hK.out _ _ (⟨aR.out.cells.1,aR.out.cells.2,aS.out.cells.1,aS.out.cells.2,aT.out.cells.1,aT.out.cells.2,bE.out⟩) (fun hHeld=>?_)
  clear hK K hk aG hr bD P_0 Q_0 D_0 aL aM aO bR
  try simp only [PT]
  refine ryy [5] ?_
  refine .cons rfl (fun K hK=>?_) .nil
  go_simp
  go_at_call_of 95 (#[Value.agg #[.bool s',.slice A' n' c'],Value.agg #[.bool s2,.slice A2 n2 c2]])
  refine (fdivided_any q G s' s2 A' A2 n' c' n2 c2 v1 (Q_1.out) (D_1.out) (by omega) (by omega) aB.out).mono ?_
  rintro e v2 ⟨s6,A6,n6,c6,rfl,hr,hk⟩
  have R6_2:=hJ (PIo.eq hr bO.out)
  have aD:=hJ hk
  go_wp2_with fail
  have bF:=hJ (bt bE.out aD.out)
  have P_2:=hJ (PIo.new P_1.out aD.out)
  have Q_2:=hJ (PIo.new Q_1.out aD.out)
  have D_2:=hJ (PIo.new D_1.out aD.out)
  have R5_2:=hJ (PIo.new R5_1.out aD.out)
  have aU:=hJ (aR.out.new aD.out)
  have aV:=hJ (aS.out.new aD.out)
  have aW:=hJ (aT.out.new aD.out)
  have bT:=hJ (bS.out.new aD.out)
  clear hHeld
  refine hK.out _ _ (⟨aU.out.cells.1,aU.out.cells.2,aV.out.cells.1,aV.out.cells.2,aW.out.cells.1,aW.out.cells.2,bF.out⟩) (fun hHeld=>?_)
  clear hK K hk aD hr bE P_1 Q_1 D_1 R5_1 aR aS aT bS
  try simp only [PT]
  refine ryy [6] ?_
  refine .cons rfl (fun K hK=>?_) .nil
  go_simp
  go_at_call 96
  refine (flowest_any P Q s5 s6 A5 A6 n5 c5 n6 c6 v2 (R5_2.out) (R6_2.out) (by have:=plim R6_2.out bQ.out; omega)).mono ?_
  rintro e v3 ⟨s7,A7,n7,c7,s8,A8,n8,c8,rfl,hr,hk⟩
  have R7_3:=hJ (hr)
  have aC:=hJ hk
  go_wp2_with fail
  have bG:=hJ (bt bF.out aC.out)
  have P_3:=hJ (PIo.new P_2.out aC.out)
  have Q_3:=hJ (PIo.new Q_2.out aC.out)
  have D_3:=hJ (PIo.new D_2.out aC.out)
  have R5_3:=hJ (PIo.new R5_2.out aC.out)
  have R6_3:=hJ (PIo.new R6_2.out aC.out)
  have aX:=hJ (aU.out.new aC.out)
  have aY:=hJ (aV.out.new aC.out)
  have aZ:=hJ (aW.out.new aC.out)
  have aA:=hJ (bT.out.new aC.out)
  clear hHeld
  refine hK.out _ _ (⟨aX.out.cells.1,aX.out.cells.2,aY.out.cells.1,aY.out.cells.2,aZ.out.cells.1,aZ.out.cells.2,bG.out⟩) (fun hHeld=>?_)
  clear hK K hk aC hr bF P_2 Q_2 D_2 R5_2 R6_2 aU aV aW bT
  try simp only [PT]
  refine ryy [7] ?_
  refine .cons rfl (fun K hK=>?_) .nil
  obtain ⟨z0,z1,z2,z3⟩:=aA.out.cells
  have y0:=aA.out.frozen 0
  have y1:=aA.out.frozen 1
  have y2:=aA.out.frozen 2
  have y3:=aA.out.frozen 3
  have z9:=aA.out.lt
  go_simp
  obtain ⟨v4,hV⟩:=nmz (World.setCell (World.setCell (World.setCell (World.setCell v3 ⟨(h+1+1),0,none⟩ (.bool s7)) ⟨(h+1+1),1,none⟩ (.slice A7 n7 c7)) ⟨(h+1+1),2,none⟩ (.bool s8)) ⟨(h+1+1),3,none⟩ (.slice A8 n8 c8))
  rw [hV]
  have bU:=hJ (show Below w.heap.size w v4 by rw [←hV]; exact below_box4 bG.out (by rw [HH.out]; omega) _ _ _ _)
  have P_4:=hJ (show PI v4 s A n c (p) by rw [←hV]; exact PIo.box4 (P_3.out) (aA.out) rfl rfl rfl rfl (.bool s7) (.slice A7 n7 c7) (.bool s8) (.slice A8 n8 c8))
  have Q_4:=hJ (show PI v4 s' A' n' c' (q) by rw [←hV]; exact PIo.box4 (Q_3.out) (aA.out) rfl rfl rfl rfl (.bool s7) (.slice A7 n7 c7) (.bool s8) (.slice A8 n8 c8))
  have D_4:=hJ (show PI v4 s2 A2 n2 c2 (G) by rw [←hV]; exact PIo.box4 (D_3.out) (aA.out) rfl rfl rfl rfl (.bool s7) (.slice A7 n7 c7) (.bool s8) (.slice A8 n8 c8))
  have R5_4:=hJ (show PI v4 s5 A5 n5 c5 (P) by rw [←hV]; exact PIo.box4 (R5_3.out) (aA.out) rfl rfl rfl rfl (.bool s7) (.slice A7 n7 c7) (.bool s8) (.slice A8 n8 c8))
  have R6_4:=hJ (show PI v4 s6 A6 n6 c6 (Q) by rw [←hV]; exact PIo.box4 (R6_3.out) (aA.out) rfl rfl rfl rfl (.bool s7) (.slice A7 n7 c7) (.bool s8) (.slice A8 n8 c8))
  have R7_4:=hJ (show PF v4 s7 A7 n7 c7 s8 A8 n8 c8 (P) (Q) by rw [←hV]; exact PF.box4 (R7_3.out) (aA.out) (.bool s7) (.slice A7 n7 c7) (.bool s8) (.slice A8 n8 c8))
  have bV:=hJ (show P2 33 v4 h (.bool s) (.slice A n c) by rw [←hV]; exact aX.out.far4 (show h≠(h+1+1) from (by omega)) (.bool s7) (.slice A7 n7 c7) (.bool s8) (.slice A8 n8 c8))
  have bW:=hJ (show P2 33 v4 (h+1) (.bool s') (.slice A' n' c') by rw [←hV]; exact aY.out.far4 (show (h+1)≠(h+1+1) from (by omega)) (.bool s7) (.slice A7 n7 c7) (.bool s8) (.slice A8 n8 c8))
  have bX:=hJ (show P2 33 v4 gd (.bool s2) (.slice A2 n2 c2) by rw [←hV]; exact aZ.out.far4 (show gd≠(h+1+1) from cG.out.2) (.bool s7) (.slice A7 n7 c7) (.bool s8) (.slice A8 n8 c8))
  have cS:=hJ (show P4 35 v4 (h+1+1) (.bool s7) (.slice A7 n7 c7) (.bool s8) (.slice A8 n8 c8) by rw [←hV]; exact aA.out.all (.bool s7) (.slice A7 n7 c7) (.bool s8) (.slice A8 n8 c8))
  clear hHeld
  refine hK.out _ _ (⟨bV.out.cells.1,bV.out.cells.2,bW.out.cells.1,bW.out.cells.2,bX.out.cells.1,bX.out.cells.2,bU.out⟩) (fun hHeld=>?_)
  clear hK K hV z9 z0 z1 z2 z3 y0 y1 y2 y3 bG P_3 Q_3 D_3 R5_3 R6_3 R7_3 aX aY aZ aA
  refine tq 8 ?_
  try simp only [PT]
  refine wpAnyH_done (by kernel_rfl) ?_ _
  clear hHeld
  go_wp2
  exact bodyPost_ret (results_cell1 rfl _ _ _ _ _ _ _ rfl (cS.out) Tryz.underlying35 rfl F_size) rfl (by rw [bC.out.1,bC.out.2.1,bC.out.2.2]; exact ⟨s7,A7,n7,c7,s8,A8,n8,c8,rfl,R7_4.out,bU.out⟩)
end Go.Proofs.YtdgicnhadecldaaGreat
