/- Contracts of the program's points: nearest, Round. Conditions: as each statement has them. -/
import Derived.Test.YtdgicnhadecldaaGreatKPF
import Derived.Test.YtdgicnhadecldaaGreatKAE
import Derived.Test.YtdgicnhadecldaaGreatKPM
import Derived.Test.YtdgicnhadecldaaGreatKFF
namespace Go.Proofs.YtdgicnhadecldaaGreat
set_option maxRecDepth 100000
set_option maxHeartbeats 12800000
open Go.RowKit
attribute [local go_sem ↓] Go.wp_at_zero Go.wp_at_succ
/-- n modulo most, never negative. -/
def aroundZ (v n:Int):Int:=(if v < 0 then -(v+1) else v) % n
theorem aroundZ_in (v:Int) {n:Int} (h:1≤n):0≤aroundZ v n∧aroundZ v n < n:=⟨Int.emod_nonneg _ (by omega),Int.emod_lt_of_pos _ (by omega)⟩
theorem i64_in {x:Int} (h:(Lit.int .i64 x).wf=true) : -9223372036854775808≤x∧x≤9223372036854775807:=by simpa [Lit.wf,IntKind.min,IntKind.max,IntKind.signed,IntKind.bits] using h
theorem aroundz_any (v n:Int) (w:World) (h1:1≤n) (hn:n≤1099511627776) (hv:(Lit.int .i64 v).wf=true) :
  Calls Tryz.prog 35 #[.int .i64 v,.int .i64 n] w fun e w'=>e=.returned (.int .i64 (aroundZ v n))∧w=w':=by
 obtain ⟨hb1,hb2⟩:=i64_in hv
 unfold aroundZ
 clear hv
 by_cases h:v < 0
 ·rw [if_pos h,←Int.tmod_eq_emod_of_nonneg (show 0 ≤ -(v+1) by omega),Int.neg_tmod]
  go_enter Tryz.func35,Tryz.ntmps35
  go_wp2
  go_ret
  exact ⟨rfl,rfl⟩
 ·rw [if_neg h]
  have h0:0≤v:=by omega
  go_enter Tryz.func35,Tryz.ntmps35
  go_wp2
  go_ret
  exact ⟨rfl,rfl⟩
theorem G_size:(Tryz.prog.info? 23).map (·.size)=some 2:=by kernel_rfl
/-- A coordinate of Grid. -/
def Co (x:Int):Prop:=0≤x∧x≤32
theorem grid_any (n:Int) (w:World) (hn:(Lit.int .i64 n).wf=true) :
  Calls Tryz.prog 32 #[.int .i64 n] w fun e w'=>∃ x y,e=.returned (.agg #[.int .i64 x,.int .i64 y])∧Co x∧Co y∧Below w.heap.size w w':=by
 have HN:=hJ hn
 clear hn
 obtain ⟨W,hW⟩:∃ W,w.alloc (.cells #[.int .i64 0,.int .i64 0] 23)=W:=⟨_,rfl⟩
 have HK:=hJ (show Below w.heap.size w W by rw [←hW]; exact (Below.refl _ w).alloc (Nat.le_refl _) _)
 have HZ:=hJ (show P2 23 W w.heap.size (.int .i64 0) (.int .i64 0) by rw [←hW]; exact P2.lit _ _ _ _)
 obtain ⟨z0,z1⟩:=HZ.out.cells
 have f0:=HZ.out.frozen 0
 have f1:=HZ.out.frozen 1
 go_enter Tryz.func32,Tryz.ntmps32
 go_wp2_with fail
 refine (aroundz_any n 1048576 W (by decide) (by decide) HN.out).mono ?_
 rintro e w1 ⟨rfl,rfl⟩
 obtain ⟨k,hk⟩:∃ k,aroundZ n 1048576=k:=⟨_,rfl⟩
 obtain ⟨hk0,hk1⟩:=aroundZ_in n (n:=1048576) (by decide)
 rw [hk] at hk0 hk1 ⊢
 clear hk
 by_cases h3:k % 3=0
 ·have e1:IntKind.i64.wrap (k / 3)=k / 3:=IntWalk.i64_in _ (by omega)
  have e2:IntKind.i64.wrap (k / 15)=k / 15:=IntWalk.i64_in _ (by omega)
  have e3:IntKind.i64.wrap (k / 3 % 5)=k / 3 % 5:=IntWalk.i64_in _ (by omega)
  have e4:IntKind.i64.wrap (k / 15 % 5)=k / 15 % 5:=IntWalk.i64_in _ (by omega)
  have g1:0≤k / 3:=by omega
  have g2:0≤k / 15:=by omega
  have e5:IntKind.i64.wrap (8*(k / 3 % 5))=8*(k / 3 % 5):=IntWalk.i64_in _ (by omega)
  have e6:IntKind.i64.wrap (8*(k / 15 % 5))=8*(k / 15 % 5):=IntWalk.i64_in _ (by omega)
  have e7:(k % 3 == 0)=true:=by simp [h3]
  have HR:=hJ (show Co (8*(k / 3 % 5))∧Co (8*(k / 15 % 5)) from ⟨⟨by omega,by omega⟩,by omega,by omega⟩)
  clear h3
  go_wp2
  exact bodyPost_ret (results_cell_row rfl _ _ _ _ _ _ _ rfl (HZ.out.all (.int .i64 (8*(k / 3 % 5))) (.int .i64 (8*(k / 15 % 5)))) Tryz.underlying23 rfl G_size) rfl ⟨_,_,rfl,HR.out.1,HR.out.2,below_box HK.out (by omega) _ _⟩
 ·have e1:IntKind.i64.wrap (k / 3)=k / 3:=IntWalk.i64_in _ (by omega)
  have e2:IntKind.i64.wrap (k / 99)=k / 99:=IntWalk.i64_in _ (by omega)
  have e3:IntKind.i64.wrap (k / 3 % 33)=k / 3 % 33:=IntWalk.i64_in _ (by omega)
  have e4:IntKind.i64.wrap (k / 99 % 33)=k / 99 % 33:=IntWalk.i64_in _ (by omega)
  have g1:0≤k / 3:=by omega
  have g2:0≤k / 99:=by omega
  have e7:(k % 3 == 0)=false:=by simp [h3]
  have HR:=hJ (show Co (k / 3 % 33)∧Co (k / 99 % 33) from ⟨⟨by omega,by omega⟩,by omega,by omega⟩)
  clear h3
  go_wp2
  exact bodyPost_ret (results_cell_row rfl _ _ _ _ _ _ _ rfl (HZ.out.all (.int .i64 (k / 3 % 33)) (.int .i64 (k / 99 % 33))) Tryz.underlying23 rfl G_size) rfl ⟨_,_,rfl,HR.out.1,HR.out.2,below_box HK.out (by omega) _ _⟩
/-- Two boxes have a point in common. -/
def mtV (a b x y a' b' x' y':Int):Bool:=decide (max a a'≤min x x'∧max b b'≤min y y')
theorem meets_any (a b x y a' b' x' y':Int) (w:World) :
  Calls Tryz.prog 76 #[.agg #[.int .i64 a,.int .i64 b,.int .i64 x,.int .i64 y],.agg #[.int .i64 a',.int .i64 b',.int .i64 x',.int .i64 y']] w fun e w'=>e=.returned (.bool (mtV a b x y a' b' x' y'))∧Below w.heap.size w w':=by
 obtain ⟨W,hW⟩:∃ W,(w.alloc (.cells #[.int .i64 a,.int .i64 b,.int .i64 x,.int .i64 y] 97)).alloc (.cells #[.int .i64 a',.int .i64 b',.int .i64 x',.int .i64 y'] 97)=W:=⟨_,rfl⟩
 have HK:=hJ (show Below w.heap.size w W by rw [←hW]; exact ((Below.refl _ w).alloc (Nat.le_refl _) _).alloc (by simp) _)
 have HA:=hJ (show P4 97 W w.heap.size (.int .i64 a) (.int .i64 b) (.int .i64 x) (.int .i64 y) by rw [←hW]; exact (P4.lit w _ _ _ _ _).new ((Below.refl _ _).alloc (Nat.le_refl _) _))
 have HB:=hJ (show P4 97 W (w.heap.size+1) (.int .i64 a') (.int .i64 b') (.int .i64 x') (.int .i64 y') by
  rw [←hW]
  have h0:=P4.lit (w.alloc (.cells #[.int .i64 a,.int .i64 b,.int .i64 x,.int .i64 y] 97)) 97 (.int .i64 a') (.int .i64 b') (.int .i64 x') (.int .i64 y')
  rw [World.size_alloc] at h0
  exact h0)
 obtain ⟨a0,a1,a2,a3⟩:=HA.out.cells
 obtain ⟨b0,b1,b2,b3⟩:=HB.out.cells
 have qa2:=fun o=>(World.cell?_alloc_lt W o ⟨w.heap.size,2,none⟩ HA.out.lt).trans a2
 have qa3:=fun o=>(World.cell?_alloc_lt W o ⟨w.heap.size,3,none⟩ HA.out.lt).trans a3
 have qb2:=fun o=>(World.cell?_alloc_lt W o ⟨w.heap.size+1,2,none⟩ HB.out.lt).trans b2
 have qb3:=fun o=>(World.cell?_alloc_lt W o ⟨w.heap.size+1,3,none⟩ HB.out.lt).trans b3
 clear a2 a3 b2 b3
 go_enter Tryz.func76,Tryz.ntmps76
 go_wp2_with fail
 all_goals
  refine (notgr_any _ _ _ _ _).mono ?_
  rintro e w9 ⟨rfl,hb9⟩
  have aA:=hJ (bt ((HK.out.alloc HK.out.size _).alloc (HK.out.alloc HK.out.size _).size _) hb9)
  clear hb9 qa2 qa3 qb2 qb3 a0 a1 b0 b1
  go_wp2
  go_ret
  refine ⟨?_,aA.out⟩
  unfold mtV
  refine congrArg (fun z=>Ending.returned (.bool z)) ?_
  rw [←Bool.decide_and]
  all_goals exact decide_eq_decide.2 (by omega)
/-- Block b is just three cells, none frozen. -/
def P3 (t:TypeId) (w:World) (b:Nat) (v0 v1 v2:Value):Prop:=w.heap[b]?=some (.cells #[v0,v1,v2] t (0,0))
section
variable {t:TypeId} {w w':World} {b:Nat} {v0 v1 v2:Value}
theorem P3.lt (h:P3 t w b v0 v1 v2):b < w.heap.size:=(Array.getElem?_eq_some_iff.1 h).1
theorem P3.cells (h:P3 t w b v0 v1 v2):w.cell? ⟨b,0,none⟩=some v0∧w.cell? ⟨b,1,none⟩=some v1∧w.cell? ⟨b,2,none⟩=some v2:=by
 unfold P3 at h
 refine ⟨?_,?_,?_⟩ <;> simp [World.cell?,h]
theorem P3.frozen (h:P3 t w b v0 v1 v2) (i:Nat):w.frozen? ⟨b,i,none⟩=false:=by
 unfold P3 at h
 simp [World.frozen?,h]
theorem P3.new (h:P3 t w b v0 v1 v2) (hb:Below w.heap.size w w'):P3 t w' b v0 v1 v2:=(hb.block b h.lt).trans h
theorem P3.lit (w:World) (t:TypeId) (v0 v1 v2:Value):P3 t (w.alloc (.cells #[v0,v1,v2] t)) w.heap.size v0 v1 v2:=heap_alloc_new w _
theorem P3.all (h:P3 t w b v0 v1 v2) (u0 u1 u2:Value):P3 t (((w.setCell ⟨b,0,none⟩ u0).setCell ⟨b,1,none⟩ u1).setCell ⟨b,2,none⟩ u2) b u0 u1 u2:=by
 unfold P3 at h ⊢
 simp [World.setCell,Array.getElem?_modify,h]
end
end Go.Proofs.YtdgicnhadecldaaGreat
