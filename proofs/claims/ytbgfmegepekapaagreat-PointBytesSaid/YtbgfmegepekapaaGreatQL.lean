/- Contracts of the program's points: nearest, Round. Conditions: as each statement has them. -/
import Derived.Test.YtbgfmegepekapaaGreatPF
import Derived.Test.YtbgfmegepekapaaGreatAE
import Derived.Test.YtbgfmegepekapaaGreatPM
import Derived.Test.YtbgfmegepekapaaGreatFF
namespace Go.Proofs.YtbgfmegepekapaaGreat
set_option maxRecDepth 100000
set_option maxHeartbeats 12800000
open Go.RowKit
attribute [local go_sem ↓] Go.wp_at_zero Go.wp_at_succ
theorem good_any (x y:Int) (w:World) :
  Calls Tryz.prog 123 #[.agg #[.int .i64 x,.int .i64 y]] w fun e w'=>e=.returned (.int .i64 (vdC x y))∧Below w.heap.size w w':=by
 obtain ⟨W,hW⟩:∃ W,w.alloc (.cells #[.int .i64 x,.int .i64 y] 71)=W:=⟨_,rfl⟩
 have HK:=hJ (show Below w.heap.size w W by rw [←hW]; exact (Below.refl _ w).alloc (Nat.le_refl _) _)
 have HA:=hJ (show P2 71 W w.heap.size (.int .i64 x) (.int .i64 y) by rw [←hW]; exact P2.lit _ _ _ _)
 obtain ⟨a0,a1⟩:=HA.out.cells
 by_cases h1:x < -1073741824
 ·have HV:=hJ (show vdC x y=5 from if_neg (by omega))
  go_enter Tryz.func123,Tryz.ntmps123
  go_wp2
  go_ret
  exact ⟨by rw [HV.out]; rfl,HK.out⟩
 by_cases h2:1073741824 < x
 ·have HV:=hJ (show vdC x y=5 from if_neg (by omega))
  go_enter Tryz.func123,Tryz.ntmps123
  go_wp2
  go_ret
  exact ⟨by rw [HV.out]; rfl,HK.out⟩
 by_cases h3:y < -1073741824
 ·have HV:=hJ (show vdC x y=5 from if_neg (by omega))
  go_enter Tryz.func123,Tryz.ntmps123
  go_wp2
  go_ret
  exact ⟨by rw [HV.out]; rfl,HK.out⟩
 by_cases h4:1073741824 < y
 ·have HV:=hJ (show vdC x y=5 from if_neg (by omega))
  go_enter Tryz.func123,Tryz.ntmps123
  go_wp2
  go_ret
  exact ⟨by rw [HV.out]; rfl,HK.out⟩
 ·have HV:=hJ (show vdC x y=0 from if_pos (by omega))
  go_enter Tryz.func123,Tryz.ntmps123
  go_wp2
  go_ret
  exact ⟨by rw [HV.out]; rfl,HK.out⟩
/-- n modulo most, never negative. -/
def aroundZ (v n:Int):Int:=(if v < 0 then -(v+1) else v) % n
theorem aroundZ_in (v:Int) {n:Int} (h:1≤n):0≤aroundZ v n∧aroundZ v n < n:=⟨Int.emod_nonneg _ (by omega),Int.emod_lt_of_pos _ (by omega)⟩
theorem i64_in {x:Int} (h:(Lit.int .i64 x).wf=true) : -9223372036854775808≤x∧x≤9223372036854775807:=by simpa [Lit.wf,IntKind.min,IntKind.max,IntKind.signed,IntKind.bits] using h
theorem aroundz_any (v n:Int) (w:World) (h1:1≤n) (hn:n≤1099511627776) (hv:(Lit.int .i64 v).wf=true) :
  Calls Tryz.prog 16 #[.int .i64 v,.int .i64 n] w fun e w'=>e=.returned (.int .i64 (aroundZ v n))∧w=w':=by
 obtain ⟨hb1,hb2⟩:=i64_in hv
 unfold aroundZ
 clear hv
 by_cases h:v < 0
 ·rw [if_pos h,←Int.tmod_eq_emod_of_nonneg (show 0 ≤ -(v+1) by omega),Int.neg_tmod]
  go_enter Tryz.func16,Tryz.ntmps16
  go_wp2
  go_ret
  exact ⟨rfl,rfl⟩
 ·rw [if_neg h]
  have h0:0≤v:=by omega
  go_enter Tryz.func16,Tryz.ntmps16
  go_wp2
  go_ret
  exact ⟨rfl,rfl⟩
theorem G_size:(Tryz.prog.info? 71).map (·.size)=some 2:=by kernel_rfl
/-- A coordinate of Grid. -/
def Co (x:Int):Prop:=0≤x∧x≤32
theorem grid_any (n:Int) (w:World) (hn:(Lit.int .i64 n).wf=true) :
  Calls Tryz.prog 31 #[.int .i64 n] w fun e w'=>∃ x y,e=.returned (.agg #[.int .i64 x,.int .i64 y])∧Co x∧Co y∧Below w.heap.size w w':=by
 have HN:=hJ hn
 clear hn
 obtain ⟨W,hW⟩:∃ W,w.alloc (.cells #[.int .i64 0,.int .i64 0] 71)=W:=⟨_,rfl⟩
 have HK:=hJ (show Below w.heap.size w W by rw [←hW]; exact (Below.refl _ w).alloc (Nat.le_refl _) _)
 have HZ:=hJ (show P2 71 W w.heap.size (.int .i64 0) (.int .i64 0) by rw [←hW]; exact P2.lit _ _ _ _)
 obtain ⟨z0,z1⟩:=HZ.out.cells
 have f0:=HZ.out.frozen 0
 have f1:=HZ.out.frozen 1
 go_enter Tryz.func31,Tryz.ntmps31
 go_wp2_with fail
 refine (aroundz_any n 1048576 W (by decide) (by decide) HN.out).mono ?_
 rintro e w1 ⟨rfl,rfl⟩
 obtain ⟨k,hk⟩:∃ k,aroundZ n 1048576=k:=⟨_,rfl⟩
 obtain ⟨hk0,hk1⟩:=aroundZ_in n (n:=1048576) (by decide)
 rw [hk] at hk0 hk1 ⊢
 clear hk
 by_cases h3:k % 3=0
 ·have e1:IntKind.i64.wrap (k / 3)=k / 3:=IntWalk.i64_in _ (by omega)
  have e2:IntKind.i64.wrap (k / 15)=k / 15:=IntWalk.i64_in _ (by omega)
  have e3:IntKind.i64.wrap (k / 3 % 5)=k / 3 % 5:=IntWalk.i64_in _ (by omega)
  have e4:IntKind.i64.wrap (k / 15 % 5)=k / 15 % 5:=IntWalk.i64_in _ (by omega)
  have g1:0≤k / 3:=by omega
  have g2:0≤k / 15:=by omega
  have e5:IntKind.i64.wrap (8*(k / 3 % 5))=8*(k / 3 % 5):=IntWalk.i64_in _ (by omega)
  have e6:IntKind.i64.wrap (8*(k / 15 % 5))=8*(k / 15 % 5):=IntWalk.i64_in _ (by omega)
  have e7:(k % 3 == 0)=true:=by simp [h3]
  have HR:=hJ (show Co (8*(k / 3 % 5))∧Co (8*(k / 15 % 5)) from ⟨⟨by omega,by omega⟩,by omega,by omega⟩)
  clear h3
  go_wp2
  exact bodyPost_ret (results_cell_row rfl _ _ _ _ _ _ _ rfl (HZ.out.all (.int .i64 (8*(k / 3 % 5))) (.int .i64 (8*(k / 15 % 5)))) Tryz.underlying71 rfl G_size) rfl ⟨_,_,rfl,HR.out.1,HR.out.2,below_box HK.out (by omega) _ _⟩
 ·have e1:IntKind.i64.wrap (k / 3)=k / 3:=IntWalk.i64_in _ (by omega)
  have e2:IntKind.i64.wrap (k / 99)=k / 99:=IntWalk.i64_in _ (by omega)
  have e3:IntKind.i64.wrap (k / 3 % 33)=k / 3 % 33:=IntWalk.i64_in _ (by omega)
  have e4:IntKind.i64.wrap (k / 99 % 33)=k / 99 % 33:=IntWalk.i64_in _ (by omega)
  have g1:0≤k / 3:=by omega
  have g2:0≤k / 99:=by omega
  have e7:(k % 3 == 0)=false:=by simp [h3]
  have HR:=hJ (show Co (k / 3 % 33)∧Co (k / 99 % 33) from ⟨⟨by omega,by omega⟩,by omega,by omega⟩)
  clear h3
  go_wp2
  exact bodyPost_ret (results_cell_row rfl _ _ _ _ _ _ _ rfl (HZ.out.all (.int .i64 (k / 3 % 33)) (.int .i64 (k / 99 % 33))) Tryz.underlying71 rfl G_size) rfl ⟨_,_,rfl,HR.out.1,HR.out.2,below_box HK.out (by omega) _ _⟩
theorem scaled_any (x y k a b:Int) (w:World) (hx:Co x) (hy:Co y) (hk:1≤k∧k≤16777216) (ha : -268435456≤a∧a < 268435456) (hb : -268435456≤b∧b < 268435456) :
  Calls Tryz.prog 33 #[.agg #[.int .i64 x,.int .i64 y],.int .i64 k,.agg #[.int .i64 a,.int .i64 b]] w fun e w'=>e=.returned (.agg #[.int .i64 (k*x+a),.int .i64 (k*y+b)])∧Below w.heap.size w w':=by
 have m1:0≤k*x∧k*x≤536870912:=⟨Int.mul_nonneg (by omega) hx.1,by have:=Int.mul_le_mul hk.2 hx.2 hx.1 (by decide); omega⟩
 have m2:0≤k*y∧k*y≤536870912:=⟨Int.mul_nonneg (by omega) hy.1,by have:=Int.mul_le_mul hk.2 hy.2 hy.1 (by decide); omega⟩
 have e1:IntKind.i64.wrap (k*x)=k*x:=IntWalk.i64_in _ (by omega)
 have e2:IntKind.i64.wrap (k*y)=k*y:=IntWalk.i64_in _ (by omega)
 have e3:IntKind.i64.wrap (k*x+a)=k*x+a:=IntWalk.i64_in _ (by omega)
 have e4:IntKind.i64.wrap (k*y+b)=k*y+b:=IntWalk.i64_in _ (by omega)
 clear hx hy hk ha hb m1 m2
 obtain ⟨W,hW⟩:∃ W,((w.alloc (.cells #[.int .i64 x,.int .i64 y] 71)).alloc (.cells #[.int .i64 a,.int .i64 b] 71)).alloc (.cells #[.int .i64 0,.int .i64 0] 71)=W:=⟨_,rfl⟩
 have hw1:=(Below.refl w.heap.size w).alloc (Nat.le_refl _) (.cells #[.int .i64 x,.int .i64 y] 71)
 have hw2:=hw1.alloc hw1.size (.cells #[.int .i64 a,.int .i64 b] 71)
 have HK:=hJ (show Below w.heap.size w W by rw [←hW]; exact hw2.alloc hw2.size _)
 have HA:=hJ (show P2 71 W w.heap.size (.int .i64 x) (.int .i64 y) by rw [←hW]; exact ((P2.lit w _ _ _).alloc _).alloc _)
 have HB:=hJ (show P2 71 W (w.heap.size+1) (.int .i64 a) (.int .i64 b) by
  rw [←hW]
  have h0:=(P2.lit (w.alloc (.cells #[.int .i64 x,.int .i64 y] 71)) 71 (.int .i64 a) (.int .i64 b)).alloc (.cells #[.int .i64 0,.int .i64 0] 71)
  simp only [World.size_alloc] at h0
  exact h0)
 have HZ:=hJ (show P2 71 W (w.heap.size+1+1) (.int .i64 0) (.int .i64 0) by
  rw [←hW]
  have h0:=P2.lit ((w.alloc (.cells #[.int .i64 x,.int .i64 y] 71)).alloc (.cells #[.int .i64 a,.int .i64 b] 71)) 71 (.int .i64 0) (.int .i64 0)
  simp only [World.size_alloc] at h0
  exact h0)
 clear hw1 hw2
 obtain ⟨x0,x1⟩:=HA.out.cells
 obtain ⟨y0,y1⟩:=HB.out.cells
 obtain ⟨z0,z1⟩:=HZ.out.cells
 have f0:=HZ.out.frozen 0
 have f1:=HZ.out.frozen 1
 go_enter Tryz.func33,Tryz.ntmps33
 go_wp2
 exact bodyPost_ret (results_cell_row rfl _ _ _ _ _ _ _ rfl (HZ.out.all (.int .i64 (k*x+a)) (.int .i64 (k*y+b))) Tryz.underlying71 rfl G_size) rfl ⟨rfl,below_box HK.out (by omega) _ _⟩
/-- Points as values, one behind the other. -/
def vp:List (Int × Int)→List Value
 | []=>[]
 | p :: l=>.int .i64 p.1 :: .int .i64 p.2 :: vp l
theorem vp_snoc (l:List (Int × Int)) (p:Int × Int):vp l ++ [.int .i64 p.1,.int .i64 p.2]=vp (l ++ [p]):=by
 induction l with
 | nil=>rfl
 | cons q l ih=>rw [vp,List.cons_append,List.cons_append,ih]; rfl
theorem vp_get {l:List (Int × Int)} {i:Nat} {p:Int × Int} (h:l[i]?=some p):(vp l)[i*2]?=some (.int .i64 p.1)∧(vp l)[i*2+1]?=some (.int .i64 p.2):=by
 induction l generalizing i with
 | nil=>simp at h
 | cons q l ih =>
  match i with
  | 0=>simp at h; subst h; exact ⟨rfl,rfl⟩
  | i+1 =>
   have:=ih (i:=i) (by simpa using h)
   rw [show (i+1)*2=i*2+1+1 by omega]
   exact this
/-- Block g holds these points. -/
def C2 (w:World) (g:Nat) (l:List (Int × Int)):Prop:=∀ i p,l[i]?=some p→w.cell? ⟨g,i*2,none⟩=some (.int .i64 p.1)∧w.cell? ⟨g,i*2+1,none⟩=some (.int .i64 p.2)
theorem C2.new {w w':World} {g B:Nat} {l:List (Int × Int)} (h:C2 w g l) (hb:Below B w w') (hg:g < B):C2 w' g l:=by
 intro i p hp
 obtain ⟨h1,h2⟩:=h i p hp
 exact ⟨(hb.cell (p:=⟨g,i*2,none⟩) hg).trans h1,(hb.cell (p:=⟨g,i*2+1,none⟩) hg).trans h2⟩
theorem C2.lit (w:World) (t:TypeId) (x0 y0 x1 y1 x2 y2 x3 y3:Int):C2 (w.alloc (.cells #[.int .i64 x0,.int .i64 y0,.int .i64 x1,.int .i64 y1,.int .i64 x2,.int .i64 y2,.int .i64 x3,.int .i64 y3] t)) w.heap.size [(x0,y0),(x1,y1),(x2,y2),(x3,y3)]:=by
 have hh:=heap_alloc_new w (.cells #[.int .i64 x0,.int .i64 y0,.int .i64 x1,.int .i64 y1,.int .i64 x2,.int .i64 y2,.int .i64 x3,.int .i64 y3] t)
 intro i p hp
 match i with
 | 0=>simp at hp; subst hp; exact ⟨(cell_of_row _ _ _ _ t (0,0) hh).trans rfl,(cell_of_row _ _ _ _ t (0,0) hh).trans rfl⟩
 | 1=>simp at hp; subst hp; exact ⟨(cell_of_row _ _ _ _ t (0,0) hh).trans rfl,(cell_of_row _ _ _ _ t (0,0) hh).trans rfl⟩
 | 2=>simp at hp; subst hp; exact ⟨(cell_of_row _ _ _ _ t (0,0) hh).trans rfl,(cell_of_row _ _ _ _ t (0,0) hh).trans rfl⟩
 | 3=>simp at hp; subst hp; exact ⟨(cell_of_row _ _ _ _ t (0,0) hh).trans rfl,(cell_of_row _ _ _ _ t (0,0) hh).trans rfl⟩
 | i+4=>simp at hp
theorem own_c2 {w:World} {base n:Nat} {t:TypeId} {v:Value} {l:List (Int × Int)} (h:w.ownsRow base t 2 v n (vp l)) (hn:0 < n):∃ g cap,v=.slice (some ⟨g,0,none⟩) n cap∧base≤g∧g < w.heap.size∧n≤cap∧C2 w g l:=by
 rcases h.2 with ⟨_,h0⟩ | ⟨g,cap,cur,rfl,h2,h3,h4,_⟩
 ·omega
 ·refine ⟨g,cap,rfl,h2,(Array.getElem?_eq_some_iff.1 h3).1,h4,fun i p hp=>?_⟩
  obtain ⟨e1,e2⟩:=vp_get hp
  have a1:=h.cells (g:=g) rfl _ _ e1
  have a2:=h.cells (g:=g) rfl _ _ e2
  rw [Go.WideShapes.add_plain,Nat.zero_add] at a1 a2
  exact ⟨a1,a2⟩
theorem take_snoc {l:List (Int × Int)} {i:Nat} {p:Int × Int} (h:l[i]?=some p) (f:Int × Int→Int × Int):(l.take i).map f ++ [f p]=(l.take (i+1)).map f:=by
 rw [List.take_add_one,h,List.map_append]
 rfl
theorem get_all {l:List (Int × Int)} {i:Nat} (h:l.length=4) (hi:i < 4) (hc:∀ p ∈ l,Co p.1∧Co p.2):∃ x y,l[i]?=some (x,y)∧Co x∧Co y:=by
 have hs:l[i]?=some l[i]:=List.getElem?_eq_getElem (by omega)
 exact ⟨_,_,hs,hc _ (List.getElem_mem _)⟩
theorem co_wf {x:Int} (h:Co x):(Lit.int .i64 x).wf=true:=WalkArith.wf_i64 (by have:=h.1; have:=h.2; omega)
/-- n, a and b as the law makes them. -/
def Nab (n a b:Int):Prop:=(1≤n∧n≤16777216)∧(-268435456≤a∧a < 268435456)∧(-268435456≤b∧b < 268435456)
theorem mv_in {n x a:Int} (hn:1≤n∧n≤16777216) (hx:Co x) (ha : -268435456≤a∧a < 268435456) : -268435456≤n*x+a∧n*x+a≤805306368:=by
 have m1:0≤n*x∧n*x≤536870912:=⟨Int.mul_nonneg (by omega) hx.1,by have:=Int.mul_le_mul hn.2 hx.2 hx.1 (by decide); omega⟩
 omega
theorem mv_wf {n x a:Int} (hn:1≤n∧n≤16777216) (hx:Co x) (ha : -268435456≤a∧a < 268435456):(Lit.int .i64 (n*x+a)).wf=true:=WalkArith.wf_i64 (by have:=mv_in hn hx ha; omega)
theorem mv_vd {n a b x y:Int} (h:Nab n a b) (hx:Co x) (hy:Co y):vdC (n*x+a) (n*y+b)=0:=by
 have h1:=mv_in h.1 hx h.2.1
 have h2:=mv_in h.1 hy h.2.2
 exact if_pos ⟨by omega,by omega⟩
/-- Block b is just three cells, none frozen. -/
def P3 (t:TypeId) (w:World) (b:Nat) (v0 v1 v2:Value):Prop:=w.heap[b]?=some (.cells #[v0,v1,v2] t (0,0))
section
variable {t:TypeId} {w w':World} {b:Nat} {v0 v1 v2:Value}
theorem P3.lt (h:P3 t w b v0 v1 v2):b < w.heap.size:=(Array.getElem?_eq_some_iff.1 h).1
theorem P3.cells (h:P3 t w b v0 v1 v2):w.cell? ⟨b,0,none⟩=some v0∧w.cell? ⟨b,1,none⟩=some v1∧w.cell? ⟨b,2,none⟩=some v2:=by
 unfold P3 at h
 refine ⟨?_,?_,?_⟩ <;> simp [World.cell?,h]
theorem P3.frozen (h:P3 t w b v0 v1 v2) (i:Nat):w.frozen? ⟨b,i,none⟩=false:=by
 unfold P3 at h
 simp [World.frozen?,h]
theorem P3.new (h:P3 t w b v0 v1 v2) (hb:Below w.heap.size w w'):P3 t w' b v0 v1 v2:=(hb.block b h.lt).trans h
theorem P3.lit (w:World) (t:TypeId) (v0 v1 v2:Value):P3 t (w.alloc (.cells #[v0,v1,v2] t)) w.heap.size v0 v1 v2:=heap_alloc_new w _
theorem P3.all (h:P3 t w b v0 v1 v2) (u0 u1 u2:Value):P3 t (((w.setCell ⟨b,0,none⟩ u0).setCell ⟨b,1,none⟩ u1).setCell ⟨b,2,none⟩ u2) b u0 u1 u2:=by
 unfold P3 at h ⊢
 simp [World.setCell,Array.getElem?_modify,h]
end
theorem below_box3 {w0 w:World} {B b:Nat} (h:Below B w0 w) (hb:B≤b) (u0 u1 u2:Value):Below B w0 (((w.setCell ⟨b,0,none⟩ u0).setCell ⟨b,1,none⟩ u1).setCell ⟨b,2,none⟩ u2) :=
 ((h.setCell (p:=⟨b,0,none⟩) hb u0).setCell (p:=⟨b,1,none⟩) hb u1).setCell (p:=⟨b,2,none⟩) hb u2
theorem R_size:(Tryz.prog.info? 32).map (·.size)=some 3:=by kernel_rfl
theorem rof_any (x y:Int) (w:World) :
  Calls Tryz.prog 39 #[.agg #[.int .i64 x,.int .i64 y]] w fun e w'=>e=.returned (.agg #[.int .i64 x,.int .i64 y,.int .i64 1])∧Below w.heap.size w w':=by
 obtain ⟨W,hW⟩:∃ W,(w.alloc (.cells #[.int .i64 x,.int .i64 y] 71)).alloc (.cells #[.int .i64 0,.int .i64 0,.int .i64 0] 32)=W:=⟨_,rfl⟩
 have HK:=hJ (show Below w.heap.size w W by rw [←hW]; exact ((Below.refl _ w).alloc (Nat.le_refl _) _).alloc (by simp) _)
 have HA:=hJ (show P2 71 W w.heap.size (.int .i64 x) (.int .i64 y) by rw [←hW]; exact (P2.lit w _ _ _).alloc _)
 have HZ:=hJ (show P3 32 W (w.heap.size+1) (.int .i64 0) (.int .i64 0) (.int .i64 0) by
  rw [←hW]
  have h0:=P3.lit (w.alloc (.cells #[.int .i64 x,.int .i64 y] 71)) 32 (.int .i64 0) (.int .i64 0) (.int .i64 0)
  rw [World.size_alloc] at h0
  exact h0)
 obtain ⟨a0,a1⟩:=HA.out.cells
 obtain ⟨z0,z1,z2⟩:=HZ.out.cells
 have f0:=HZ.out.frozen 0
 have f1:=HZ.out.frozen 1
 have f2:=HZ.out.frozen 2
 go_enter Tryz.func39,Tryz.ntmps39
 go_wp2
 exact bodyPost_ret (results_cell_row rfl _ _ _ _ _ _ _ rfl (HZ.out.all (.int .i64 x) (.int .i64 y) (.int .i64 1)) Tryz.underlying32 rfl R_size) rfl ⟨rfl,below_box3 HK.out (by omega) _ _ _⟩
theorem rcommon_any (a b:Int) (w:World) (ha : -1099511627776≤a∧a≤1099511627776) (hb : -1099511627776≤b∧b≤1099511627776) :
  Calls Tryz.prog 89 #[.int .i64 a,.int .i64 b] w fun e w'=>e=.returned (.int .i64 (Nat.gcd a.natAbs b.natAbs:Nat))∧w=w':=by
 obtain ⟨G,hG⟩:∃ g,Nat.gcd a.natAbs b.natAbs=g:=⟨_,rfl⟩
 have HG:=hJ hG
 rw [hG]
 clear hG
 have hna:IntKind.i64.wrap (-a) = -a:=IntWalk.i64_in _ (by omega)
 have hnb:IntKind.i64.wrap (-b) = -b:=IntWalk.i64_in _ (by omega)
 obtain ⟨x,hx⟩:∃ x:Nat,a.natAbs=x:=⟨_,rfl⟩
 obtain ⟨y,hy⟩:∃ y:Nat,b.natAbs=y:=⟨_,rfl⟩
 have aA:=hJ (And.intro hx hy)
 go_enter Tryz.func89,Tryz.ntmps89
 by_cases h1:a < 0 <;> by_cases h2:b < 0
 all_goals
  go_wp2_with fail
  clear hna hnb
  go_loopw [0,1] (fun ta tb wr=>∃ p q:Nat,ta=.int .i64 (p:Int)∧tb=.int .i64 (q:Int)∧Hid (Nat.gcd p q=G)∧p≤1099511627776∧q≤1099511627776∧wr=w) (fun _ tb _=>(intOf tb).toNat)
  case atStart=>exact ⟨x,y,by congr 1; omega,by congr 1; omega,hJ (by rw [←HG.out,aA.out.1,aA.out.2]),by omega,by omega,rfl⟩
  case round =>
   obtain ⟨p,q,rfl,rfl,hg,hp,hq,rfl⟩:=hrel
   by_cases h0:q=0
   ·subst h0
    have HE:=hJ (show p=G by rw [←hg.out,Nat.gcd_zero_right])
    go_wp2
    go_ret
    exact ⟨by rw [HE.out]; rfl,rfl⟩
   ·have hq0:(0:Int) < (q:Int):=by omega
    have hr:p % q < q:=Nat.mod_lt _ (by omega)
    have e1:(p:Int) % (q:Int)=((p % q:Nat):Int):=rfl
    have e2:IntKind.i64.wrap ((p:Int) % (q:Int))=((p % q:Nat):Int):=by rw [e1]; exact IntWalk.i64_in _ (by omega)
    have e3:IntKind.i64.wrap ((p:Int).tmod (q:Int))=((p % q:Nat):Int):=by rw [Int.tmod_eq_emod_of_nonneg (by omega)]; exact e2
    go_wp2
    go_roundw
    case rel=>exact ⟨q,p % q,by go_num,by first | rfl | go_num,hJ (by rw [←hg.out,Nat.gcd_comm p q,Nat.gcd_rec q p]; exact Nat.gcd_comm _ _),by omega,by omega,by first | rfl | trivial⟩
    case measure=>simp [intOf]; omega
/-- What Make returns: x / g, y / g, d / g. -/
def MkR (x y d X Y D:Int):Prop:=∃ g:Int,0 < g∧x=g*X∧y=g*Y∧d=g*D∧(D∣X→D∣Y→D=1)
theorem mkR_of {x y d:Int} (hd:0 < d):∃ g X Y D:Int,0 < g∧((Nat.gcd (Nat.gcd x.natAbs y.natAbs) d.natAbs:Nat):Int)=g∧x=g*X∧y=g*Y∧d=g*D∧0 < D∧MkR x y d X Y D:=by
 obtain ⟨G,hG⟩:∃ g,Nat.gcd (Nat.gcd x.natAbs y.natAbs) d.natAbs=g:=⟨_,rfl⟩
 have g0:0 < G:=by rw [←hG]; exact Nat.gcd_pos_of_pos_right _ (by omega)
 obtain ⟨X,hX⟩:(G:Int)∣x:=Int.ofNat_dvd_left.2 (by rw [←hG]; exact Nat.dvd_trans (Nat.gcd_dvd_left _ _) (Nat.gcd_dvd_left _ _))
 obtain ⟨Y,hY⟩:(G:Int)∣y:=Int.ofNat_dvd_left.2 (by rw [←hG]; exact Nat.dvd_trans (Nat.gcd_dvd_left _ _) (Nat.gcd_dvd_right _ _))
 obtain ⟨D,hD⟩:(G:Int)∣d:=Int.ofNat_dvd_left.2 (by rw [←hG]; exact Nat.gcd_dvd_right _ _)
 have D0:0 < D:=Int.pos_of_mul_pos_right (show 0 < (G:Int)*D by rw [←hD]; exact hd) (by omega)
 refine ⟨G,X,Y,D,by omega,by rw [hG],hX,hY,hD,D0,G,by omega,hX,hY,hD,fun h1 h2=>?_⟩
 obtain ⟨u,hu⟩:=h1
 obtain ⟨v,hv⟩:=h2
 have dx:(G*D.natAbs)∣x.natAbs:=⟨u.natAbs,by rw [hX,hu,Int.natAbs_mul,Int.natAbs_mul,Int.natAbs_natCast,Nat.mul_assoc]⟩
 have dy:(G*D.natAbs)∣y.natAbs:=⟨v.natAbs,by rw [hY,hv,Int.natAbs_mul,Int.natAbs_mul,Int.natAbs_natCast,Nat.mul_assoc]⟩
 have dd:(G*D.natAbs)∣d.natAbs:=⟨1,by rw [hD,Int.natAbs_mul,Int.natAbs_natCast,Nat.mul_one]⟩
 have dg:(G*D.natAbs)∣G:=by
  have:=Nat.dvd_gcd (Nat.dvd_gcd dx dy) dd
  rwa [hG] at this
 have hle:=Nat.le_of_dvd g0 dg
 have:D.natAbs≤1:=Nat.le_of_mul_le_mul_left (show G*D.natAbs≤G*1 by omega) g0
 omega
theorem quo_in {g X:Int} (hg:0 < g) (h : -1099511627776≤g*X∧g*X≤1099511627776):IntKind.i64.wrap ((g*X).tdiv g)=X∧(-1099511627776≤X∧X≤1099511627776):=by
 have e:(g*X).tdiv g=X:=by rw [Int.mul_comm]; exact Int.mul_tdiv_cancel _ (by omega)
 have b:X.natAbs≤(g*X).natAbs:=by rw [Int.natAbs_mul]; exact Nat.le_mul_of_pos_left _ (by omega)
 have b2 : -1099511627776≤X∧X≤1099511627776:=by omega
 rw [e]
 exact ⟨IntWalk.i64_in _ (by omega),b2⟩
theorem make_any (x y d:Int) (w:World) (hd0:0 < d) (hx : -1099511627776≤x∧x≤1099511627776) (hy : -1099511627776≤y∧y≤1099511627776) (hd : -1099511627776≤d∧d≤1099511627776) :
  Calls Tryz.prog 40 #[.int .i64 x,.int .i64 y,.int .i64 d] w fun e w'=>∃ X Y D:Int,e=.returned (.agg #[.int .i64 X,.int .i64 Y,.int .i64 D])∧MkR x y d X Y D∧0 < D∧Below w.heap.size w w':=by
 obtain ⟨g,X,Y,D,g0,hg,rfl,rfl,rfl,D0,hR⟩:=mkR_of (x:=x) (y:=y) (d:=d) hd0
 have HR:=hJ hR
 have HB:=hJ (And.intro hx (And.intro hy hd))
 have HG:=hJ hg
 have aD:=hJ (show -1099511627776≤((Nat.gcd (g*X).natAbs (g*Y).natAbs:Nat):Int)∧((Nat.gcd (g*X).natAbs (g*Y).natAbs:Nat):Int)≤1099511627776 by
  refine ⟨by omega,?_⟩
  by_cases h0:(g*X).natAbs=0
  ·rw [h0,Nat.gcd_zero_left]; omega
  have:=Nat.le_of_dvd (by omega) (Nat.gcd_dvd_left (g*X).natAbs (g*Y).natAbs); omega)
 obtain ⟨e1,b1⟩:=quo_in g0 hx
 obtain ⟨e2,b2⟩:=quo_in g0 hy
 obtain ⟨e3,b3⟩:=quo_in g0 hd
 obtain ⟨x',hx'⟩:=nmz (g*X)
 obtain ⟨y',hy'⟩:=nmz (g*Y)
 obtain ⟨d',hd'⟩:=nmz (g*D)
 have HE:=hJ (And.intro e1 (And.intro e2 e3))
 rw [hx',hy',hd'] at HE
 rw [hx',hy',hd'] at HR
 rw [hx',hy',hd'] at HB
 rw [hx',hy',hd'] at HG
 rw [hx',hy'] at aD
 rw [hx',hy',hd']
 have hd9:0 < d':=by rw [←hd']; exact hd0
 have hg9:g≠0:=by omega
 clear hR hx hy hd hd0 e1 e2 e3 b1 b2 b3 hx' hy' hd' hg
 obtain ⟨W,hW⟩:∃ W,w.alloc (.cells #[.int .i64 0,.int .i64 0,.int .i64 0] 32)=W:=⟨_,rfl⟩
 have HK:=hJ (show Below w.heap.size w W by rw [←hW]; exact (Below.refl _ w).alloc (Nat.le_refl _) _)
 have HZ:=hJ (show P3 32 W w.heap.size (.int .i64 0) (.int .i64 0) (.int .i64 0) by rw [←hW]; exact P3.lit _ _ _ _ _)
 obtain ⟨h,hh⟩:∃ h,w.heap.size=h:=⟨_,rfl⟩
 rw [hh] at HZ
 have HH:=hJ hh
 go_enter Tryz.func40,Tryz.ntmps40
 go_wp2_with fail
 clear hh
 refine (rcommon_any x' y' W HB.out.1 HB.out.2.1).mono ?_
 rintro e w1 ⟨rfl,rfl⟩
 go_wp2_with fail
 refine (rcommon_any _ d' W aD.out HB.out.2.2).mono ?_
 rw [Int.natAbs_natCast,HG.out]
 rintro e w1 ⟨rfl,rfl⟩
 have q1:=HE.out.1
 have q2:=HE.out.2.1
 have q3:=HE.out.2.2
 go_upto_region 6 with fail
 clear hW
 have aG:=hJ HK.out
 obtain ⟨v0,hv0⟩:=nmz (World.drew W)
 have aB:=hJ (show Below W.heap.size W v0 by rw [←hv0]; exact (Below.refl _ _).drew)
 have aC:=hJ (bt aG.out aB.out)
 have aA:=hJ (HZ.out.new aB.out)
 refine wp_region_held_drew (S:=(fun w':World=>Below w.heap.size w w')) (by kernel_rfl) ?_ (fun hHeld=>?_)
 ·rw [hv0]
  exact aC.out
 rw [hv0] at hHeld ⊢
 clear hv0 aB
 refine tq 0 ?_
 refine tq 1 ?_
 refine tq 2 ?_
 refine tq 3 ?_
 refine tq 4 ?_
 refine tq 5 ?_
 refine tq 6 ?_
 refine tq 7 ?_
 refine tq 8 ?_
 refine tq 9 ?_
 try simp only [PT]
 refine ryy [10] ?_
 refine .cons rfl (fun K hK=>?_) .nil
 obtain ⟨z0,z1,z2⟩:=aA.out.cells
 have y0:=aA.out.frozen 0
 have y1:=aA.out.frozen 1
 have y2:=aA.out.frozen 2
 have z9:=aA.out.lt
 go_simp
 obtain ⟨v1,hV⟩:=nmz (World.setCell (World.setCell (World.setCell v0 ⟨h,0,none⟩ (.int .i64 X)) ⟨h,1,none⟩ (.int .i64 Y)) ⟨h,2,none⟩ (.int .i64 D))
 rw [hV]
 have aF:=hJ (show Below w.heap.size w v1 by rw [←hV]; exact below_box3 aC.out ((show w.heap.size≤h by rw [HH.out]; exact Nat.le_refl _)) _ _ _)
 have aH:=hJ (show P3 32 v1 h (.int .i64 X) (.int .i64 Y) (.int .i64 D) by rw [←hV]; exact aA.out.all (.int .i64 X) (.int .i64 Y) (.int .i64 D))
 clear hHeld
 refine hK.out _ _ (aF.out) (fun hHeld=>?_)
 clear hK K hV z9 z0 z1 z2 y0 y1 y2 aC aA
 try simp only [PT]
 refine wpAnyH_done (by kernel_rfl) ?_ _
 clear hHeld
 have HF:=hJ aH.out
 have aI:=hJ aF.out
 go_wp2_with fail
 exact bodyPost_ret (results_cell_row rfl _ _ _ _ _ _ _ rfl HF.out Tryz.underlying32 rfl R_size) rfl ⟨X,Y,D,rfl,HR.out,D0,aI.out⟩
/-- A point of the law's own: small numbers in lowest terms. -/
def Sm (X Y D:Int):Prop:=(0 < D∧D≤12)∧(-400≤X∧X≤400)∧(-400≤Y∧Y≤400)∧(D∣X→D∣Y→D=1)
theorem mul_abs_le {g X:Int} (hg:0 < g):X.natAbs≤(g*X).natAbs:=by rw [Int.natAbs_mul]; exact Nat.le_mul_of_pos_left _ (by omega)
theorem sm_of {x y d X Y D:Int} (h:MkR x y d X Y D) (hD:0 < D) (hx : -400≤x∧x≤400) (hy : -400≤y∧y≤400) (hd:d≤12) (hd0:0 < d):Sm X Y D:=by
 obtain ⟨g,hg,rfl,rfl,rfl,hl⟩:=h
 have h1:=mul_abs_le (X:=X) hg
 have h2:=mul_abs_le (X:=Y) hg
 have h3:=mul_abs_le (X:=D) hg
 exact ⟨⟨hD,by omega⟩,⟨by omega,by omega⟩,⟨by omega,by omega⟩,hl⟩
theorem dens_lit (w:World) (t:TypeId) (j:Nat) (hj:j < 8):∃ d:Int,(w.alloc (.cells #[.int .i64 1,.int .i64 1,.int .i64 1,.int .i64 2,.int .i64 2,.int .i64 3,.int .i64 5,.int .i64 12] t)).cell? ⟨w.heap.size,j,none⟩=some (.int .i64 d)∧(1≤d∧d≤12):=by
 have hh:=heap_alloc_new w (.cells #[.int .i64 1,.int .i64 1,.int .i64 1,.int .i64 2,.int .i64 2,.int .i64 3,.int .i64 5,.int .i64 12] t)
 match j,hj with
 | 0,_=>exact ⟨1,(cell_of_row _ _ _ _ t (0,0) hh).trans rfl,by decide⟩
 | 1,_=>exact ⟨1,(cell_of_row _ _ _ _ t (0,0) hh).trans rfl,by decide⟩
 | 2,_=>exact ⟨1,(cell_of_row _ _ _ _ t (0,0) hh).trans rfl,by decide⟩
 | 3,_=>exact ⟨2,(cell_of_row _ _ _ _ t (0,0) hh).trans rfl,by decide⟩
 | 4,_=>exact ⟨2,(cell_of_row _ _ _ _ t (0,0) hh).trans rfl,by decide⟩
 | 5,_=>exact ⟨3,(cell_of_row _ _ _ _ t (0,0) hh).trans rfl,by decide⟩
 | 6,_=>exact ⟨5,(cell_of_row _ _ _ _ t (0,0) hh).trans rfl,by decide⟩
 | 7,_=>exact ⟨12,(cell_of_row _ _ _ _ t (0,0) hh).trans rfl,by decide⟩
theorem P2.far3 {t:TypeId} {w:World} {b:Nat} {x0 x1:Value} (h:P2 t w b x0 x1) {g:Nat} (hg:b≠g) (u0 u1 u2:Value):P2 t (((w.setCell ⟨g,0,none⟩ u0).setCell ⟨g,1,none⟩ u1).setCell ⟨g,2,none⟩ u2) b x0 x1:=((h.far (p:=⟨g,0,none⟩) hg u0).far (p:=⟨g,1,none⟩) hg u1).far (p:=⟨g,2,none⟩) hg u2
theorem some_any (n:Int) (w:World) (hn:(Lit.int .i64 n).wf=true) :
  Calls Tryz.prog 7 #[.int .i64 n] w fun e w'=>∃ X Y D,e=.returned (.agg #[.int .i64 X,.int .i64 Y,.int .i64 D])∧Sm X Y D∧Below w.heap.size w w':=by
 have HN:=hJ hn
 clear hn
 obtain ⟨W,hW⟩:∃ W,w.alloc (.cells #[.int .i64 0,.int .i64 0,.int .i64 0] 32)=W:=⟨_,rfl⟩
 have HK:=hJ (show Below w.heap.size w W by rw [←hW]; exact (Below.refl _ w).alloc (Nat.le_refl _) _)
 have HZ:=hJ (show P3 32 W w.heap.size (.int .i64 0) (.int .i64 0) (.int .i64 0) by rw [←hW]; exact P3.lit _ _ _ _ _)
 obtain ⟨h,hh⟩:∃ h,w.heap.size=h:=⟨_,rfl⟩
 rw [hh] at HZ
 have HH:=hJ hh
 go_enter Tryz.func7,Tryz.ntmps7
 go_wp2_with fail
 clear hh
 refine (aroundz_any n 1048576 W (by decide) (by decide) HN.out).mono ?_
 rintro e w1 ⟨rfl,rfl⟩
 obtain ⟨hk0,hk1⟩:=aroundZ_in n (n:=1048576) (by decide)
 obtain ⟨k,hk⟩:∃ k,aroundZ n 1048576=k:=⟨_,rfl⟩
 rw [hk] at hk0 hk1 ⊢
 have aT:=hJ (And.intro hk0 hk1)
 clear hk
 have e1:IntKind.i64.wrap (k / 8)=k / 8:=IntWalk.i64_in _ (by omega)
 go_wp2_with fail
 clear hW
 refine (grid_any (k / 8) W (WalkArith.wf_i64 (by omega))).mono ?_
 rintro e w2 ⟨px,py,rfl,cx,cy,hb2⟩
 have HC:=hJ (And.intro cx cy)
 have aU:=hJ hb2
 have aV:=hJ HZ.out
 obtain ⟨w3,hw3⟩:=nmz (w2.alloc (.cells #[.int .i64 px,.int .i64 py] 71))
 have HQ:=hJ (show P2 71 w3 w2.heap.size (.int .i64 px) (.int .i64 py) by rw [←hw3]; exact P2.lit _ _ _ _)
 have aL:=hJ (show Below W.heap.size W w3 by rw [←hw3]; exact bt hb2 ((Below.refl _ _).alloc (Nat.le_refl _) _))
 obtain ⟨w4,hw4⟩:=nmz (w3.alloc (.cells #[.int .i64 1,.int .i64 1,.int .i64 1,.int .i64 2,.int .i64 2,.int .i64 3,.int .i64 5,.int .i64 12] 3))
 obtain ⟨j,hj⟩:∃ j:Nat,k % 8=(j:Int):=⟨(k % 8).toNat,by omega⟩
 have hj8:j < 8:=by omega
 obtain ⟨d,hd,hd1⟩:=dens_lit w3 3 j hj8
 rw [hw4] at hd
 have aH:=hJ (show P2 71 w4 w2.heap.size (.int .i64 px) (.int .i64 py) by rw [←hw4]; exact HQ.out.new ((Below.refl _ _).alloc (Nat.le_refl _) _))
 have aI:=hJ (show Below W.heap.size W w4 by rw [←hw4]; exact bt aL.out ((Below.refl _ _).alloc (Nat.le_refl _) _))
 have aM:=hJ (HZ.out.new aI.out)
 have aN:=hJ (bt HK.out aI.out)
 have HD:=hJ hd1
 clear cx cy hb2 HQ aL HZ hd1 aI
 have hj0:(0:Int)≤(j:Int):=by omega
 have hj9:(j:Int) < 8:=by omega
 have hj7:IntKind.i64.wrap (j:Int)=(j:Int):=IntWalk.i64_in _ (by omega)
 obtain ⟨gq,hgq⟩:∃ g,w2.heap.size=g:=⟨_,rfl⟩
 rw [hgq] at aH
 have aW:=hJ (show gq≠h by have h9:=aU.out.size; have h8:=aV.out.lt; omega)
 by_cases h1:d=1
 ·subst h1
  obtain ⟨a0,a1⟩:=aH.out.cells
  go_wp2_with fail
  clear hw3 hw4 hgq
  refine (rof_any px py w4).mono ?_
  rintro e w5 ⟨rfl,hb5⟩
  have aB:=hJ (aM.out.new hb5)
  have aX:=hJ (bt aN.out hb5)
  clear hb5 a0 a1 hd
  obtain ⟨z0,z1,z2⟩:=aB.out.cells
  have f0:=aB.out.frozen 0
  have f1:=aB.out.frozen 1
  have f2:=aB.out.frozen 2
  go_wp2_with fail
  exact bodyPost_ret (results_cell_row rfl _ _ _ _ _ _ _ rfl (aB.out.all (.int .i64 px) (.int .i64 py) (.int .i64 1)) Tryz.underlying32 rfl R_size) rfl ⟨px,py,1,rfl,⟨⟨by decide,by decide⟩,⟨by have:=HC.out.1.1; omega,by have:=HC.out.1.2; omega⟩,⟨by have:=HC.out.2.1; omega,by have:=HC.out.2.2; omega⟩,fun _ _=>rfl⟩,below_box3 aX.out (by rw [HH.out]; exact Nat.le_refl _) _ _ _⟩
 ·have hd2:(d == 1)=false:=by simp [h1]
  have hda:1≤d:=HD.out.1
  have hdb:d≤12:=HD.out.2
  have m1:0≤px*d∧px*d≤384:=⟨Int.mul_nonneg HC.out.1.1 (by omega),by have:=Int.mul_le_mul HC.out.1.2 hdb (by omega) (show (0:Int)≤32 by decide); omega⟩
  have m2:0≤py*d∧py*d≤384:=⟨Int.mul_nonneg HC.out.2.1 (by omega),by have:=Int.mul_le_mul HC.out.2.2 hdb (by omega) (show (0:Int)≤32 by decide); omega⟩
  have hk2:=aT.out
  have r1:0≤k / 64 % d∧k / 64 % d < d:=⟨Int.emod_nonneg _ (by omega),Int.emod_lt_of_pos _ (by omega)⟩
  have r2:0≤k / 256 % d∧k / 256 % d < d:=⟨Int.emod_nonneg _ (by omega),Int.emod_lt_of_pos _ (by omega)⟩
  have g1:0≤k / 64:=by omega
  have g2:0≤k / 256:=by omega
  have e2:IntKind.i64.wrap (px*d)=px*d:=IntWalk.i64_in _ (by omega)
  have e3:IntKind.i64.wrap (py*d)=py*d:=IntWalk.i64_in _ (by omega)
  have e4:IntKind.i64.wrap (k / 64)=k / 64:=IntWalk.i64_in _ (by omega)
  have e5:IntKind.i64.wrap (k / 256)=k / 256:=IntWalk.i64_in _ (by omega)
  have e6:IntKind.i64.wrap (k / 64 % d)=k / 64 % d:=IntWalk.i64_in _ (by omega)
  have e7:IntKind.i64.wrap (k / 256 % d)=k / 256 % d:=IntWalk.i64_in _ (by omega)
  have e8:IntKind.i64.wrap (px*d - k / 64 % d)=px*d - k / 64 % d:=IntWalk.i64_in _ (by omega)
  have e9:IntKind.i64.wrap (py*d - k / 256 % d)=py*d - k / 256 % d:=IntWalk.i64_in _ (by omega)
  have HM:=hJ (show (-400≤px*d - k / 64 % d∧px*d - k / 64 % d≤400)∧(-400≤py*d - k / 256 % d∧py*d - k / 256 % d≤400) from ⟨⟨by omega,by omega⟩,by omega,by omega⟩)
  have hdn:d≠0:=by omega
  have hk3:0≤k:=hk2.1
  clear m1 m2 r1 r2 h1 hdb hk2
  go_wp2_with fail
  clear hw3 hw4 hgq hd hj
  have aY:=hJ aN.out
  obtain ⟨v0,hv0⟩:=nmz (World.drew w4)
  have aC:=hJ (show Below w4.heap.size w4 v0 by rw [←hv0]; exact (Below.refl _ _).drew)
  have aJ:=hJ (bt aY.out aC.out)
  have aO:=hJ (aM.out.new aC.out)
  have aD:=hJ (aH.out.new aC.out)
  refine wp_region_held_drew (S:=(fun w':World=>w'.cell? ⟨gq,0,none⟩=some (.int .i64 px)∧w'.cell? ⟨gq,1,none⟩=some (.int .i64 py)∧Below w.heap.size w w')) (by kernel_rfl) ?_ (fun hHeld=>?_)
  ·rw [hv0]
   exact ⟨aD.out.cells.1,aD.out.cells.2,aJ.out⟩
  rw [hv0] at hHeld ⊢
  clear hv0 aC
  refine tq 0 ?_
  refine tq 1 ?_
  refine tq 2 ?_
  refine tq 3 ?_
  refine tq 4 ?_
  refine tq 5 ?_
  refine tq 6 ?_
  refine tq 7 ?_
  refine tq 8 ?_
  refine tq 9 ?_
  refine tq 10 ?_
  refine tq 11 ?_
  refine tq 12 ?_
  refine tq 13 ?_
  refine tq 14 ?_
  refine tq 15 ?_
  refine tq 16 ?_
  refine tq 17 ?_
  refine tq 18 ?_
  try simp only [PT]
  refine ryy [19] ?_
  refine .cons rfl (fun K hK=>?_) .nil
  go_simp
  go_at_call 40
  rw [show k.tdiv 64=k / 64 from Int.tdiv_eq_ediv_of_nonneg hk3,show k.tdiv 256=k / 256 from Int.tdiv_eq_ediv_of_nonneg hk3,e4,e5,show (k / 64).tmod d=k / 64 % d from Int.tmod_eq_emod_of_nonneg g1,show (k / 256).tmod d=k / 256 % d from Int.tmod_eq_emod_of_nonneg g2,e8,e9]
  refine (make_any (px*d - k / 64 % d) (py*d - k / 256 % d) d v0 (by omega) ⟨by have:=HM.out; omega,by have:=HM.out; omega⟩ ⟨by have:=HM.out; omega,by have:=HM.out; omega⟩ ⟨by omega,by have:=HD.out; omega⟩).mono ?_
  rintro e v1 ⟨X,Y,D,rfl,hmk,hD0,hk⟩
  have aZ:=hJ (sm_of hmk hD0 HM.out.1 HM.out.2 HD.out.2 (by omega))
  clear hmk hD0
  have aF:=hJ hk
  go_wp2_with fail
  have aK:=hJ (bt aJ.out aF.out)
  have aA:=hJ (aO.out.new aF.out)
  have aG:=hJ (aD.out.new aF.out)
  clear hHeld
  refine hK.out _ _ (⟨aG.out.cells.1,aG.out.cells.2,aK.out⟩) (fun hHeld=>?_)
  clear hK K hk aF aJ aO aD
  try simp only [PT]
  refine ryy [20] ?_
  refine .cons rfl (fun K hK=>?_) .nil
  obtain ⟨z0,z1,z2⟩:=aA.out.cells
  have y0:=aA.out.frozen 0
  have y1:=aA.out.frozen 1
  have y2:=aA.out.frozen 2
  have z9:=aA.out.lt
  go_simp
  obtain ⟨v2,hV⟩:=nmz (World.setCell (World.setCell (World.setCell v1 ⟨h,0,none⟩ (.int .i64 X)) ⟨h,1,none⟩ (.int .i64 Y)) ⟨h,2,none⟩ (.int .i64 D))
  rw [hV]
  have aR:=hJ (show Below w.heap.size w v2 by rw [←hV]; exact below_box3 aK.out ((show w.heap.size≤h by rw [HH.out]; exact Nat.le_refl _)) _ _ _)
  have aS:=hJ (show P2 71 v2 gq (.int .i64 px) (.int .i64 py) by rw [←hV]; exact aG.out.far3 (show gq≠h from aW.out) (.int .i64 X) (.int .i64 Y) (.int .i64 D))
  have bA:=hJ (show P3 32 v2 h (.int .i64 X) (.int .i64 Y) (.int .i64 D) by rw [←hV]; exact aA.out.all (.int .i64 X) (.int .i64 Y) (.int .i64 D))
  clear hHeld
  refine hK.out _ _ (⟨aS.out.cells.1,aS.out.cells.2,aR.out⟩) (fun hHeld=>?_)
  clear hK K hV z9 z0 z1 z2 y0 y1 y2 aK aG aA
  try simp only [PT]
  refine wpAnyH_done (by kernel_rfl) ?_ _
  clear hHeld
  have HF:=hJ bA.out
  have bB:=hJ aR.out
  go_wp2_with fail
  exact bodyPost_ret (results_cell_row rfl _ _ _ _ _ _ _ rfl HF.out Tryz.underlying32 rfl R_size) rfl ⟨X,Y,D,rfl,aZ.out,bB.out⟩
theorem rsign_any (n:Int) (w:World) :
  Calls Tryz.prog 124 #[.int .i64 n] w fun e w'=>e=.returned (.int .i64 (cmpI n 0))∧w=w':=by
 rcases cmpI_cases n 0 with ⟨h,hv⟩ | ⟨h,hv⟩ | ⟨h,hv⟩
 all_goals
  rw [hv]
  clear hv
  try subst h
  go_enter Tryz.func124,Tryz.ntmps124
  go_wp2
  go_ret
  exact ⟨rfl,rfl⟩
theorem mul_in {a b:Int} {m n:Nat} (ha:a.natAbs≤m) (hb:b.natAbs≤n):(a*b).natAbs≤m*n:=by rw [Int.natAbs_mul]; exact Nat.mul_le_mul ha hb
/-- Small enough. -/
def Sb (X Y D:Int):Prop:=(0 < D∧D≤12)∧(-400≤X∧X≤400)∧(-400≤Y∧Y≤400)
theorem Sm.sb {X Y D:Int} (h:Sm X Y D):Sb X Y D:=⟨h.1,h.2.1,h.2.2.1⟩
/-- The nearest integer. -/
def nrV (n d:Int):Int := -((d - 2*n) / (2*d))
/-- What Whole returns. -/
def rwK (X Y D:Int):Prop:=D=1∧vdC X Y=0
instance (X Y D:Int):Decidable (rwK X Y D):=by unfold rwK; infer_instance
def rwX (X Y D:Int):Int:=if rwK X Y D then X else 0
def rwY (X Y D:Int):Int:=if rwK X Y D then Y else 0
def rwB (X Y D:Int):Bool:=decide (rwK X Y D)
def rrK (X Y D:Int):Prop:=vdC (nrV X D) (nrV Y D)=0
instance (X Y D:Int):Decidable (rrK X Y D):=by unfold rrK; infer_instance
/-- Block b is just these cells, none frozen. -/
def BK (t:TypeId) (w:World) (b:Nat) (cs:Array Value):Prop:=w.heap[b]?=some (.cells cs t (0,0))
theorem BK.lit (w:World) (t:TypeId) (cs:Array Value):BK t (w.alloc (.cells cs t)) w.heap.size cs:=heap_alloc_new w _
theorem BK.lt {t:TypeId} {w:World} {b:Nat} {cs:Array Value} (h:BK t w b cs):b < w.heap.size:=(Array.getElem?_eq_some_iff.1 h).1
theorem BK.new {t:TypeId} {w w':World} {b:Nat} {cs:Array Value} (h:BK t w b cs) (hb:Below w.heap.size w w'):BK t w' b cs:=(hb.block b h.lt).trans h
/-- Not too great. -/
def Md (x y d:Int):Prop:=(0 < d∧d≤1000)∧(-34359738368≤x∧x≤34359738368)∧(-34359738368≤y∧y≤34359738368)
theorem sm_int {x:Int} (h : -34359738368≤x∧x≤34359738368):isSm x=true:=by unfold isSm; exact decide_eq_true (by omega)
theorem mk_abs {x d:Int} (hd:0 < d) (h : -34359738368≤x∧x≤34359738368) : -34359738368≤mkP x d∧mkP x d≤34359738368:=by
 have:=(mk_bound (x:=x) hd).1
 omega
/-- Whole of the program is that of the reference. -/
theorem pw_rw {x y d X Y D:Int} (h:MkR x y d X Y D) (hm:Md X Y D):pwX (mkP X D) (mkQ X D) (mkP Y D) (mkQ Y D)=rwX X Y D∧pwY (mkP X D) (mkQ X D) (mkP Y D) (mkQ Y D)=rwY X Y D∧decide (pwE (mkP X D) (mkQ X D) (mkP Y D) (mkQ Y D)=0)=rwB X Y D:=by
 obtain ⟨⟨d0,_⟩,hx,hy⟩:=hm
 have hl:D∣X→D∣Y→D=1:=by obtain ⟨_,_,_,_,_,hl⟩:=h; exact hl
 have sx:=sm_int (mk_abs d0 hx)
 have sy:=sm_int (mk_abs d0 hy)
 by_cases h1:D=1
 ·subst h1
  have ex:mkP X 1=X∧mkQ X 1=1:=⟨(mk_one X).1,(mk_one X).2.1⟩
  have ey:mkP Y 1=Y∧mkQ Y 1=1:=⟨(mk_one Y).1,(mk_one Y).2.1⟩
  rw [ex.1] at sx
  rw [ey.1] at sy
  rw [ex.1,ex.2,ey.1,ey.2]
  have va:whV X 1=X∧whC X 1=0:=⟨if_pos ⟨sx,rfl⟩,if_pos ⟨sx,rfl⟩⟩
  have vb:whV Y 1=Y∧whC Y 1=0:=⟨if_pos ⟨sy,rfl⟩,if_pos ⟨sy,rfl⟩⟩
  have e1:pwA X 1 Y 1=X:=by unfold pwA eiA; rw [if_pos ⟨va.2,vb.2⟩,va.1]
  have e2:pwB X 1 Y 1=Y:=by unfold pwB eiB; rw [if_pos ⟨va.2,vb.2⟩,vb.1]
  have e3:eiC whC X 1 Y 1=0:=by unfold eiC; rw [if_pos va.2,vb.2]
  have e4:pwE X 1 Y 1=vdC X Y:=by unfold pwE; rw [e1,e2,e3]; exact if_pos rfl
  unfold pwX pwY rwX rwY rwB
  rw [e4,e1,e2]
  by_cases hv:vdC X Y=0
  ·have hk:rwK X Y 1:=⟨rfl,hv⟩
   rw [if_pos hv,if_pos hv,if_pos hk,if_pos hk,decide_eq_true hv,decide_eq_true hk]
   exact ⟨rfl,rfl,rfl⟩
  have hk:¬ rwK X Y 1:=fun h=>hv h.2
  rw [if_neg hv,if_neg hv,if_neg hk,if_neg hk,decide_eq_false hv,decide_eq_false hk]
  exact ⟨rfl,rfl,rfl⟩
 ·have hk:¬ rwK X Y D:=fun h=>h1 h.1
  have hc:∃ c,c≠0∧eiC whC (mkP X D) (mkQ X D) (mkP Y D) (mkQ Y D)=c:=by
   by_cases q1:mkQ X D=1
   ·have q2:mkQ Y D≠1:=fun q2=>h1 (hl (mkQ_one d0 q1) (mkQ_one d0 q2))
    refine ⟨5,by decide,?_⟩
    unfold eiC
    rw [show whC (mkP X D) (mkQ X D)=0 from if_pos ⟨sx,q1⟩,if_pos rfl]
    exact if_neg (fun h=>q2 h.2)
   refine ⟨5,by decide,?_⟩
   unfold eiC
   rw [show whC (mkP X D) (mkQ X D)=5 from if_neg (fun h=>q1 h.2),if_neg (by decide)]
  obtain ⟨c,hc0,hc⟩:=hc
  have e4:pwE (mkP X D) (mkQ X D) (mkP Y D) (mkQ Y D)=c:=by unfold pwE; rw [hc]; exact if_neg hc0
  unfold pwX pwY rwX rwY rwB
  rw [e4,if_neg hc0,if_neg hc0,if_neg hk,if_neg hk,decide_eq_false hc0,decide_eq_false hk]
  exact ⟨rfl,rfl,rfl⟩
theorem rmid_any (X Y D X' Y' D':Int) (w:World) (h:Sb X Y D) (h':Sb X' Y' D') :
  Calls Tryz.prog 57 #[.agg #[.int .i64 X,.int .i64 Y,.int .i64 D],.agg #[.int .i64 X',.int .i64 Y',.int .i64 D']] w fun e w'=>∃ A B C:Int,e=.returned (.agg #[.int .i64 A,.int .i64 B,.int .i64 C])∧MkR (X*D'+X'*D) (Y*D'+Y'*D) (2*(D*D')) A B C∧0 < C∧Below w.heap.size w w':=by
 obtain ⟨⟨d0,d1⟩,⟨x0,x1⟩,y0,y1⟩:=h
 obtain ⟨⟨d0',d1'⟩,⟨x0',x1'⟩,y0',y1'⟩:=h'
 have m1:=mul_in (show X.natAbs≤400 by omega) (show D'.natAbs≤12 by omega)
 have m2:=mul_in (show X'.natAbs≤400 by omega) (show D.natAbs≤12 by omega)
 have m3:=mul_in (show Y.natAbs≤400 by omega) (show D'.natAbs≤12 by omega)
 have m4:=mul_in (show Y'.natAbs≤400 by omega) (show D.natAbs≤12 by omega)
 have m5:=mul_in (show D.natAbs≤12 by omega) (show D'.natAbs≤12 by omega)
 have m6:0 < D*D':=Int.mul_pos d0 d0'
 have m7:2*D*D'=2*(D*D'):=Int.mul_assoc _ _ _
 have e1:IntKind.i64.wrap (X*D')=X*D':=IntWalk.i64_in _ (by omega)
 have e2:IntKind.i64.wrap (X'*D)=X'*D:=IntWalk.i64_in _ (by omega)
 have e3:IntKind.i64.wrap (Y*D')=Y*D':=IntWalk.i64_in _ (by omega)
 have e4:IntKind.i64.wrap (Y'*D)=Y'*D:=IntWalk.i64_in _ (by omega)
 have e5:IntKind.i64.wrap (X*D'+X'*D)=X*D'+X'*D:=IntWalk.i64_in _ (by omega)
 have e6:IntKind.i64.wrap (Y*D'+Y'*D)=Y*D'+Y'*D:=IntWalk.i64_in _ (by omega)
 have e7:IntKind.i64.wrap (2*D)=2*D:=IntWalk.i64_in _ (by omega)
 have e8:IntKind.i64.wrap (2*D*D')=2*D*D':=IntWalk.i64_in _ (by omega)
 have HM:=hJ (show 0 < 2*(D*D')∧(-1099511627776≤X*D'+X'*D∧X*D'+X'*D≤1099511627776)∧(-1099511627776≤Y*D'+Y'*D∧Y*D'+Y'*D≤1099511627776)∧(-1099511627776≤2*(D*D')∧2*(D*D')≤1099511627776) from ⟨by omega,by omega,by omega,by omega⟩)
 have M7:=hJ m7
 clear m1 m2 m3 m4 m5 m6 m7 d0 d1 x0 x1 y0 y1 d0' d1' x0' x1' y0' y1'
 obtain ⟨W,hW⟩:∃ W,((w.alloc (.cells #[.int .i64 X,.int .i64 Y,.int .i64 D] 32)).alloc (.cells #[.int .i64 X',.int .i64 Y',.int .i64 D'] 32)).alloc (.cells #[.int .i64 0,.int .i64 0,.int .i64 0] 32)=W:=⟨_,rfl⟩
 have hw1:=(Below.refl w.heap.size w).alloc (Nat.le_refl _) (.cells #[.int .i64 X,.int .i64 Y,.int .i64 D] 32)
 have hw2:=hw1.alloc hw1.size (.cells #[.int .i64 X',.int .i64 Y',.int .i64 D'] 32)
 have HK:=hJ (show Below w.heap.size w W by rw [←hW]; exact hw2.alloc hw2.size _)
 have HA:=hJ (show P3 32 W w.heap.size (.int .i64 X) (.int .i64 Y) (.int .i64 D) by rw [←hW]; exact ((P3.lit w _ _ _ _).new ((Below.refl _ _).alloc (Nat.le_refl _) _)).new ((Below.refl _ _).alloc (Nat.le_refl _) _))
 have HB:=hJ (show P3 32 W (w.heap.size+1) (.int .i64 X') (.int .i64 Y') (.int .i64 D') by
  rw [←hW]
  have h0:=(P3.lit (w.alloc (.cells #[.int .i64 X,.int .i64 Y,.int .i64 D] 32)) 32 (.int .i64 X') (.int .i64 Y') (.int .i64 D')).new ((Below.refl _ _).alloc (Nat.le_refl _) (.cells #[.int .i64 0,.int .i64 0,.int .i64 0] 32))
  simp only [World.size_alloc] at h0
  exact h0)
 have HZ:=hJ (show P3 32 W (w.heap.size+1+1) (.int .i64 0) (.int .i64 0) (.int .i64 0) by
  rw [←hW]
  have h0:=P3.lit ((w.alloc (.cells #[.int .i64 X,.int .i64 Y,.int .i64 D] 32)).alloc (.cells #[.int .i64 X',.int .i64 Y',.int .i64 D'] 32)) 32 (.int .i64 0) (.int .i64 0) (.int .i64 0)
  simp only [World.size_alloc] at h0
  exact h0)
 clear hw1 hw2
 obtain ⟨a0,a1,a2⟩:=HA.out.cells
 obtain ⟨b0,b1,b2⟩:=HB.out.cells
 go_enter Tryz.func57,Tryz.ntmps57
 go_wp2_with fail
 clear hW
 rw [M7.out]
 refine (make_any (X*D'+X'*D) (Y*D'+Y'*D) (2*(D*D')) W HM.out.1 HM.out.2.1 HM.out.2.2.1 HM.out.2.2.2).mono ?_
 rintro e w1 ⟨A,B,C,rfl,hmk,hc,hb⟩
 have aB:=hJ (And.intro hmk hc)
 have aA:=hJ (HZ.out.new hb)
 have aC:=hJ (bt HK.out hb)
 clear hmk hc hb a0 a1 a2 b0 b1 b2 e1 e2 e3 e4 e5 e6 e7 e8
 obtain ⟨z0,z1,z2⟩:=aA.out.cells
 have f0:=aA.out.frozen 0
 have f1:=aA.out.frozen 1
 have f2:=aA.out.frozen 2
 go_wp2_with fail
 exact bodyPost_ret (results_cell_row rfl _ _ _ _ _ _ _ rfl (aA.out.all (.int .i64 A) (.int .i64 B) (.int .i64 C)) Tryz.underlying32 rfl R_size) rfl ⟨A,B,C,rfl,aB.out.1,aB.out.2,below_box3 aC.out (by omega) _ _ _⟩
end Go.Proofs.YtbgfmegepekapaaGreat
