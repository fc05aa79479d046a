/- The mathematics of directions, of sides and of circles. No walk. -/
import Derived.Test.YtbgfmegepekapaaGreatQL
namespace Go.Proofs.YtbgfmegepekapaaGreat
set_option maxRecDepth 100000
set_option maxHeartbeats 12800000
open Go.RowKit
attribute [local go_sem ↓] Go.wp_at_zero Go.wp_at_succ
set_option linter.unusedVariables false
set_option linter.unusedSimpArgs false
/-- Which half of a turn. -/
def halfV (x y:Int):Int:=if 0 < y∨(y=0∧0 < x) then 0 else 1
/-- The order of the angles of (a, b) and (c, d), as the program has it. -/
def angV (a b c d:Int):Int:=if cmpI (halfV a b) (halfV c d)=0 then cmpI (c*b) (d*a) else cmpI (halfV a b) (halfV c d)
/-- A direction with coordinates from -4 to 4. -/
def Di (x y:Int):Prop:=(-4≤x∧x≤4)∧(-4≤y∧y≤4)∧¬(x=0∧y=0)
theorem cm_neg {a b:Int}:(cmpI a b < 0)=(a < b):=by
 refine propext ⟨fun h=>?_,fun h=>?_⟩
 ·unfold cmpI at h
  split at h
  ·assumption
  split at h <;> omega
 ·unfold cmpI; rw [if_pos h]; decide
theorem cm_zero {a b:Int}:(cmpI a b=0)=(a=b):=by
 refine propext ⟨fun h=>?_,fun h=>?_⟩
 ·unfold cmpI at h
  split at h
  ·omega
  split at h <;> omega
 ·unfold cmpI; rw [if_neg (by omega),if_neg (by omega)]
/-- The error of a direction. -/
def diE (x y:Int):Int:=if x < -2147483648∨2147483648 < x∨y < -2147483648∨2147483648 < y then 5 else if x=0∧y=0 then 1 else 0
theorem di_e {x y:Int} (h:Di x y):diE x y=0:=by
 unfold diE
 have:=h.1
 have:=h.2.1
 rw [if_neg (by omega),if_neg h.2.2]
/-- The first error of a list. -/
def fsE (f:Int × Int→Int):List (Int × Int)→Int
 | []=>0
 | p :: l=>if f p=0 then fsE f l else f p
theorem fs_drop {f:Int × Int→Int} {l:List (Int × Int)} {i:Nat} {p:Int × Int} (h:l[i]?=some p):fsE f (l.drop i)=if f p=0 then fsE f (l.drop (i+1)) else f p:=by
 obtain ⟨hi,rfl⟩:=List.getElem?_eq_some_iff.1 h
 rw [List.drop_eq_getElem_cons hi,fsE]
/-- On which side of the line from a to b a point lies. -/
def sdV (ax ay bx by' cx cy:Int):Int:=cmpI ((bx - ax)*(cy - ay)) ((by' - ay)*(cx - ax))
/-- What is seen from p: ahead and to the left. -/
def ahV (ax ay bx by' px py:Int):Int:=(ax - px)*(bx - px)+(ay - py)*(by' - py)
def lfV (ax ay bx by' px py:Int):Int:=(ax - px)*(by' - py) - (ay - py)*(bx - px)
def arV (ax ay bx by' cx cy dx dy:Int):Int:=ahV ax ay bx by' cx cy*lfV ax ay bx by' dx dy - lfV ax ay bx by' cx cy*ahV ax ay bx by' dx dy
/-- The program's circle. -/
def ciV (ax ay bx by' cx cy dx dy:Int):Int:=sdV ax ay bx by' cx cy*cmpI (arV ax ay bx by' cx cy dx dy) 0
theorem sd_sub (ax ay bx by' cx cy:Int):sdV ax ay bx by' cx cy=cmpI ((bx - ax)*(cy - ay) - (by' - ay)*(cx - ax)) 0:=by unfold sdV cmpI; split <;> split <;> (try split) <;> (try split) <;> omega
theorem cmp_opp (a:Int):cmpI (-a) 0 = -cmpI a 0:=by unfold cmpI; split <;> split <;> (try split) <;> (try split) <;> omega
theorem sd_cyc (ax ay bx by' cx cy:Int):sdV bx by' cx cy ax ay=sdV ax ay bx by' cx cy:=by rw [sd_sub,sd_sub]; congr 1; grind
theorem sd_swap (ax ay bx by' cx cy:Int):sdV bx by' ax ay cx cy = -sdV ax ay bx by' cx cy:=by rw [sd_sub,sd_sub,←cmp_opp]; congr 1; grind
theorem ar_cyc (ax ay bx by' cx cy dx dy:Int):arV bx by' cx cy ax ay dx dy=arV ax ay bx by' cx cy dx dy:=by unfold arV ahV lfV; grind
theorem ar_swap (ax ay bx by' cx cy dx dy:Int):arV bx by' ax ay cx cy dx dy = -arV ax ay bx by' cx cy dx dy:=by unfold arV ahV lfV; grind
theorem ci_cyc (ax ay bx by' cx cy dx dy:Int):ciV bx by' cx cy ax ay dx dy=ciV ax ay bx by' cx cy dx dy:=by rw [ciV,ciV,sd_cyc,ar_cyc]
theorem ci_swap (ax ay bx by' cx cy dx dy:Int):ciV bx by' ax ay cx cy dx dy=ciV ax ay bx by' cx cy dx dy:=by rw [ciV,ciV,sd_swap,ar_swap,cmp_opp]; grind
theorem cmpI_is (a b:Int):(a < b∧cmpI a b = -1)∨(a=b∧cmpI a b=0)∨(b < a∧cmpI a b=1):=by
 unfold cmpI
 split
 ·exact .inl ⟨by assumption,rfl⟩
 ·split
  ·exact .inr (.inr ⟨by assumption,rfl⟩)
  ·exact .inr (.inl ⟨by omega,rfl⟩)
/-- An int of 64 bits. -/
def I6 (x:Int):Prop := -9223372036854775808≤x∧x≤9223372036854775807
theorem i6_wrap {x:Int} (h:I6 x):IntKind.i64.wrap x=x:=IntWalk.i64_in _ h
theorem i6_wf {x:Int} (h:I6 x):(Lit.int .i64 x).wf=true:=WalkArith.wf_i64 h
/-- At most k from 0. -/
def Nk (k x:Int):Prop := -k≤x∧x≤k
theorem nk_mul {k l x y:Int} (h:Nk k x) (g:Nk l y):Nk (k*l) (x*y):=by
 have hk:0≤k:=by have:=h.1; have:=h.2; omega
 have hl:0≤l:=by have:=g.1; have:=g.2; omega
 have e:(x*y).natAbs≤(k*l).natAbs:=by
  rw [Int.natAbs_mul,Int.natAbs_mul]
  exact Nat.mul_le_mul (by have:=h.1; have:=h.2; omega) (by have:=g.1; have:=g.2; omega)
 have hkl:=Int.mul_nonneg hk hl
 unfold Nk
 omega
theorem nk_add {k l x y:Int} (h:Nk k x) (g:Nk l y):Nk (k+l) (x+y):=by unfold Nk at *; omega
theorem nk_sub {k l x y:Int} (h:Nk k x) (g:Nk l y):Nk (k+l) (x - y):=by unfold Nk at *; omega
theorem nk_le {k l x:Int} (h:Nk k x) (hl:k≤l):Nk l x:=by unfold Nk at *; omega
theorem nk_i6 {k x:Int} (h:Nk k x) (hk:k≤9223372036854775807):I6 x:=by unfold Nk at h; unfold I6; omega
theorem di_nk {x y:Int} (h:diE x y=0):Nk 2147483648 x∧Nk 2147483648 y:=by
 unfold diE at h
 split at h
 ·exact absurd h (by decide)
 ·exact ⟨⟨by omega,by omega⟩,by omega,by omega⟩
theorem nk_prod {x y:Int} (h:Nk 2147483648 x) (g:Nk 2147483648 y):I6 (x*y):=nk_i6 (nk_mul h g) (by decide)
/-- Points as values, one behind the other. -/
def ptV:List (Int × Int)→List Value
 | []=>[]
 | p :: l=>.int .i64 p.1 :: .int .i64 p.2 :: ptV l
theorem ptV_get {l:List (Int × Int)} {i:Nat} {x y:Int} (h:l[i]?=some (x,y)):(ptV l).toArray[i*2]?=some (.int .i64 x)∧(ptV l).toArray[i*2+1]?=some (.int .i64 y):=by
 rw [List.getElem?_toArray,List.getElem?_toArray]
 induction l generalizing i with
 | nil=>simp at h
 | cons q l ih =>
  match i with
  | 0=>simp at h; subst h; exact ⟨rfl,rfl⟩
  | i+1 =>
   have:=ih (i:=i) (by simpa using h)
   rw [show (i+1)*2=i*2+1+1 by omega]
   exact this
def diP (p:Int × Int):Int:=diE p.1 p.2
theorem fs_zero {f:Int × Int→Int} {p:Int × Int} {l:List (Int × Int)} (h:f p=0):fsE f (p :: l)=fsE f l:=by rw [fsE,if_pos h]
theorem fs_two {f:Int × Int→Int} {p q:Int × Int} (h:fsE f [p,q]=0):f p=0∧f q=0:=by
 unfold fsE at h
 split at h
 ·unfold fsE at h
  split at h
  ·exact ⟨by assumption,by assumption⟩
  exact absurd h (by assumption)
 ·exact absurd h (by assumption)
theorem fs_cons {f:Int × Int→Int} {p:Int × Int} {l:List (Int × Int)} (h:fsE f (p :: l)=0):f p=0∧fsE f l=0:=by
 unfold fsE at h
 split at h
 ·exact ⟨by assumption,h⟩
 ·exact absurd h (by assumption)
/-- The error and the value of Turn. -/
def tuE (a b c d:Int):Int:=fsE diP [(a,b),(c,d)]
def tuV (a b c d:Int):Int:=if tuE a b c d=0 then angV a b c d else 0
theorem ang_wraps {a b c d:Int} (h:Nk 2147483648 a∧Nk 2147483648 b) (g:Nk 2147483648 c∧Nk 2147483648 d):I6 (c*b)∧I6 (d*a):=⟨nk_prod g.1 h.2,nk_prod g.2 h.1⟩
/-- What gridSide reckons. -/
def G3 (ax ay bx by' cx cy:Int):Prop:=(I6 (bx - ax)∧I6 (by' - ay))∧(I6 (cx - ax)∧I6 (cy - ay))∧I6 ((bx - ax)*(cy - ay))∧I6 ((by' - ay)*(cx - ax))
def vdP (p:Int × Int):Int:=if (-1073741824≤p.1 ∧ -1073741824≤p.2)∧(p.1≤1073741824∧p.2≤1073741824) then 0 else 5
theorem vd_nk {p:Int × Int} (h:vdP p=0):Nk 1073741824 p.1∧Nk 1073741824 p.2:=by
 unfold vdP at h
 split at h
 ·rename_i h1; exact ⟨⟨by omega,by omega⟩,by omega,by omega⟩
 ·exact absurd h (by decide)
theorem nk_diff {x y:Int} (h:Nk 1073741824 x) (g:Nk 1073741824 y):Nk 2147483648 (x - y):=nk_sub h g
theorem nk_i {x:Int} (h:Nk 2147483648 x):I6 x:=nk_i6 h (by decide)
theorem g3_ok {ax ay bx by' cx cy:Int} (ha:Nk 1073741824 ax∧Nk 1073741824 ay) (hb:Nk 1073741824 bx∧Nk 1073741824 by') (hc:Nk 1073741824 cx∧Nk 1073741824 cy):G3 ax ay bx by' cx cy :=
 ⟨⟨nk_i (nk_diff hb.1 ha.1),nk_i (nk_diff hb.2 ha.2)⟩,⟨nk_i (nk_diff hc.1 ha.1),nk_i (nk_diff hc.2 ha.2)⟩,nk_prod (nk_diff hb.1 ha.1) (nk_diff hc.2 ha.2),nk_prod (nk_diff hb.2 ha.2) (nk_diff hc.1 ha.1)⟩
/-- The error and the value of SideOf. -/
def soE (ax ay bx by' cx cy:Int):Int:=fsE vdP [(ax,ay),(bx,by'),(cx,cy)]
def soV (ax ay bx by' cx cy:Int):Int:=if soE ax ay bx by' cx cy=0 then sdV ax ay bx by' cx cy else 0
theorem validp_any (x y:Int) (w:World) :
  Calls Tryz.prog 125 #[.agg #[.int .i64 x,.int .i64 y]] w fun e w'=>e=.returned (.int .i64 (vdP (x,y)))∧Below w.heap.size w w':=valid_any x y w
theorem away_any (ax ay bx by':Int) (w:World) (h1:I6 (bx - ax)) (h2:I6 (by' - ay)) :
  Calls Tryz.prog 116 #[.agg #[.int .i64 ax,.int .i64 ay],.agg #[.int .i64 bx,.int .i64 by']] w fun e w'=>e=.returned (.agg #[.int .i64 (bx - ax),.int .i64 (by' - ay)])∧Below w.heap.size w w':=by
 have HA:=hJ h1
 have HB:=hJ h2
 clear h1 h2
 obtain ⟨x1,aA⟩:=nmz (((w.alloc (.cells #[.int .i64 ax,.int .i64 ay] 71)).alloc (.cells #[.int .i64 bx,.int .i64 by'] 71)).alloc (.cells #[.int .i64 0,.int .i64 0] 71))
 have aH:=hJ (show Below w.heap.size w x1 by rw [←aA]; exact ((((Below.refl _ _).alloc (Nat.le_refl _) _).alloc (by simp only [World.size_alloc]; omega) _).alloc (by simp only [World.size_alloc]; omega) _))
 have aC:=hJ (show BX 71 x1 w.heap.size #[.int .i64 ax,.int .i64 ay] by rw [←aA]; exact (((BX.at rfl).alloc _).alloc _))
 have aD:=hJ (show BX 71 x1 (w.heap.size+1) #[.int .i64 bx,.int .i64 by'] by rw [←aA]; exact ((BX.at (by simp only [World.size_alloc])).alloc _))
 have aB:=hJ (show BX 71 x1 (w.heap.size+2) #[.int .i64 0,.int .i64 0] by rw [←aA]; exact (BX.at (by simp only [World.size_alloc])))
 have aI:=hJ (show w.heap.size≤w.heap.size+2 by omega)
 have aJ:=aD.out.cell 0 rfl
 have aK:=aC.out.cell 0 rfl
 have aL:IntKind.i64.wrap (bx - ax)=bx - ax:=i6_wrap HA.out
 have aM:=aD.out.cell 1 rfl
 have aN:=aC.out.cell 1 rfl
 have aO:IntKind.i64.wrap (by' - ay)=by' - ay:=i6_wrap HB.out
 have aR:=aB.out.frozen 0
 have aS:=aB.out.cell 0 rfl
 have aT:=aB.out.frozen 1
 have aU:=aB.out.cell 1 rfl
 obtain ⟨x6,aF⟩:=nmz (World.setCell (World.setCell x1 ⟨w.heap.size+2,0,none⟩ (.int .i64 (bx - ax))) ⟨w.heap.size+2,1,none⟩ (.int .i64 (by' - ay)))
 have aG:=hJ (show sto x1 (w.heap.size+2) 0 [.int .i64 (bx - ax),.int .i64 (by' - ay)]=x6 from aF)
 have aV:=hJ (show BX 71 x6 (w.heap.size+2) #[.int .i64 (bx - ax),.int .i64 (by' - ay)] by rw [←aG.out]; exact BX.put aB.out _ _)
 have aW:=hJ (show Below w.heap.size w x6 by rw [←aG.out]; exact below_sto aH.out aI.out _ _)
 go_enter Tryz.func116,Tryz.ntmps116
 go_wp2
 clear aA aJ aK aL aM aN aO aR aS aT aU aF
 exact bodyPost_ret (results_cell_row rfl _ _ _ _ _ _ _ rfl aV.out Tryz.underlying71 rfl G_size) rfl ⟨rfl,aW.out⟩
theorem bend_any (ax ay bx by':Int) (w:World) (h1:I6 (ax*by')) (h2:I6 (ay*bx)) :
  Calls Tryz.prog 115 #[.agg #[.int .i64 ax,.int .i64 ay],.agg #[.int .i64 bx,.int .i64 by']] w fun e w'=>e=.returned (.int .i64 (cmpI (ax*by') (ay*bx)))∧Below w.heap.size w w':=by
 have HA:=hJ h1
 have HB:=hJ h2
 clear h1 h2
 obtain ⟨x1,aA⟩:=nmz ((w.alloc (.cells #[.int .i64 ax,.int .i64 ay] 71)).alloc (.cells #[.int .i64 bx,.int .i64 by'] 71))
 have aD:=hJ (show Below w.heap.size w x1 by rw [←aA]; exact (((Below.refl _ _).alloc (Nat.le_refl _) _).alloc (by simp only [World.size_alloc]; omega) _))
 have aB:=hJ (show BX 71 x1 w.heap.size #[.int .i64 ax,.int .i64 ay] by rw [←aA]; exact ((BX.at rfl).alloc _))
 have aC:=hJ (show BX 71 x1 (w.heap.size+1) #[.int .i64 bx,.int .i64 by'] by rw [←aA]; exact (BX.at (by simp only [World.size_alloc])))
 have aF:=aB.out.cell 0 rfl
 have aG:=aC.out.cell 1 rfl
 have aH:IntKind.i64.wrap (ax*by')=ax*by':=i6_wrap HA.out
 have aI:=aB.out.cell 1 rfl
 have aJ:=aC.out.cell 0 rfl
 have aK:IntKind.i64.wrap (ay*bx)=ay*bx:=i6_wrap HB.out
 go_enter Tryz.func115,Tryz.ntmps115
 go_wp2_with fail
 clear aA aF aG aH aI aJ aK
 refine (cmpi_any (ax*by') (ay*bx) (cmpI (ax*by') (ay*bx)) x1 (cmpI_is _ _)).mono ?_
 rintro e w6 ⟨rfl,rfl⟩
 go_wp2
 go_ret
 exact ⟨rfl,aD.out⟩
theorem half_any (x y:Int) (w:World) :
  Calls Tryz.prog 147 #[.agg #[.int .i64 x,.int .i64 y]] w fun e w'=>e=.returned (.int .i64 (halfV x y))∧Below w.heap.size w w':=by
 rcases (show 0 < y∨(y=0∧0 < x)∨(y=0∧¬ 0 < x)∨y < 0 by omega) with q | ⟨rfl,q⟩ | ⟨rfl,q⟩ | q
 ·have HV:=hJ (show halfV x y=0 from if_pos (.inl q))
  obtain ⟨x1,aA⟩:=nmz (w.alloc (.cells #[.int .i64 x,.int .i64 y] 71))
  have aI:=hJ (show Below w.heap.size w x1 by rw [←aA]; exact ((Below.refl _ _).alloc (Nat.le_refl _) _))
  have aJ:=hJ (show BX 71 x1 w.heap.size #[.int .i64 x,.int .i64 y] by rw [←aA]; exact (BX.at rfl))
  have aK:=aJ.out.cell 1 rfl
  go_enter Tryz.func147,Tryz.ntmps147
  go_wp2
  clear aA aK
  go_ret
  exact ⟨by rw [HV.out] <;> rfl,aI.out⟩
 ·have HV:=hJ (show halfV x 0=0 from if_pos (.inr ⟨rfl,q⟩))
  obtain ⟨x3,aB⟩:=nmz (w.alloc (.cells #[.int .i64 x,.int .i64 0] 71))
  have aL:=hJ (show Below w.heap.size w x3 by rw [←aB]; exact ((Below.refl _ _).alloc (Nat.le_refl _) _))
  have aC:=hJ (show BX 71 x3 w.heap.size #[.int .i64 x,.int .i64 0] by rw [←aB]; exact (BX.at rfl))
  have aM:=aC.out.cell 1 rfl
  have aN:=aC.out.cell 1 rfl
  have aO:=aC.out.cell 0 rfl
  go_enter Tryz.func147,Tryz.ntmps147
  go_wp2
  clear aB aM aN aO
  go_ret
  exact ⟨by rw [HV.out] <;> rfl,aL.out⟩
 ·have HV:=hJ (show halfV x 0=1 from if_neg (by omega))
  have q2:x≤0:=by omega
  clear q
  obtain ⟨x7,aD⟩:=nmz (w.alloc (.cells #[.int .i64 x,.int .i64 0] 71))
  have aR:=hJ (show Below w.heap.size w x7 by rw [←aD]; exact ((Below.refl _ _).alloc (Nat.le_refl _) _))
  have aF:=hJ (show BX 71 x7 w.heap.size #[.int .i64 x,.int .i64 0] by rw [←aD]; exact (BX.at rfl))
  have aS:=aF.out.cell 1 rfl
  have aT:=aF.out.cell 1 rfl
  have aU:=aF.out.cell 0 rfl
  go_enter Tryz.func147,Tryz.ntmps147
  go_wp2
  clear aD aS aT aU
  go_ret
  exact ⟨by rw [HV.out] <;> rfl,aR.out⟩
 ·have HV:=hJ (show halfV x y=1 from if_neg (by omega))
  obtain ⟨x11,aG⟩:=nmz (w.alloc (.cells #[.int .i64 x,.int .i64 y] 71))
  have aV:=hJ (show Below w.heap.size w x11 by rw [←aG]; exact ((Below.refl _ _).alloc (Nat.le_refl _) _))
  have aH:=hJ (show BX 71 x11 w.heap.size #[.int .i64 x,.int .i64 y] by rw [←aG]; exact (BX.at rfl))
  have aW:=aH.out.cell 1 rfl
  have aX:=aH.out.cell 1 rfl
  go_enter Tryz.func147,Tryz.ntmps147
  go_wp2
  clear aG aW aX
  go_ret
  exact ⟨by rw [HV.out] <;> rfl,aV.out⟩
theorem angles_any (a b c d:Int) (w:World) (h:I6 (c*b)∧I6 (d*a)) :
  Calls Tryz.prog 120 #[.agg #[.int .i64 a,.int .i64 b],.agg #[.int .i64 c,.int .i64 d]] w fun e w'=>e=.returned (.int .i64 (angV a b c d))∧Below w.heap.size w w':=by
 have HW:=hJ h
 clear h
 obtain ⟨k,hk⟩:=nmz (cmpI (halfV a b) (halfV c d))
 have HK:=hJ hk
 clear hk
 obtain ⟨x1,aB⟩:=nmz ((w.alloc (.cells #[.int .i64 a,.int .i64 b] 71)).alloc (.cells #[.int .i64 c,.int .i64 d] 71))
 have aG:=hJ (show Below w.heap.size w x1 by rw [←aB]; exact (((Below.refl _ _).alloc (Nat.le_refl _) _).alloc (by simp only [World.size_alloc]; omega) _))
 have aD:=hJ (show BX 71 x1 w.heap.size #[.int .i64 a,.int .i64 b] by rw [←aB]; exact ((BX.at rfl).alloc _))
 have aF:=hJ (show BX 71 x1 (w.heap.size+1) #[.int .i64 c,.int .i64 d] by rw [←aB]; exact (BX.at (by simp only [World.size_alloc])))
 have aC:Hid (∀ w',Below x1.heap.size x1 w'→(fun w':World=>w'.cell? ⟨w.heap.size,0,none⟩=some (.int .i64 a)∧w'.cell? ⟨w.heap.size,1,none⟩=some (.int .i64 b)∧w'.cell? ⟨w.heap.size+1,0,none⟩=some (.int .i64 c)∧w'.cell? ⟨w.heap.size+1,1,none⟩=some (.int .i64 d)∧Below x1.heap.size x1 w') w'):=hJ (fun w' hb=>⟨(BX.new aD.out hb).cell 0 rfl,(BX.new aD.out hb).cell 1 rfl,(BX.new aF.out hb).cell 0 rfl,(BX.new aF.out hb).cell 1 rfl,hb⟩)
 go_enter Tryz.func120,Tryz.ntmps120
 go_wp2_with fail
 clear aB
 obtain ⟨v2,hv2⟩:=nmz (World.drew x1)
 have aI:=hJ (show Below x1.heap.size x1 v2 by rw [←hv2]; exact (Below.refl _ _).drew)
 refine whd aC hv2 (fun hHeld=>?_)
 clear hv2
 refine tq 0 ?_
 refine tq 2 ?_
 try simp only [PT]
 refine ryy [1] ?_
 refine .cons rfl (fun K hK=>?_) .nil
 go_simp
 go_at_call 147
 refine (half_any a b v2).mono ?_
 rintro e v3 ⟨rfl,hb⟩
 have aJ:=hJ hb
 clear hb
 go_wp2_with fail
 have aH:=hJ (bt aI.out aJ.out)
 clear hHeld
 refine hK.out _ _ (aC.out _ aH.out) (fun hHeld=>?_)
 clear hK K
 try simp only [PT]
 refine ryy [3] ?_
 refine .cons rfl (fun K hK=>?_) .nil
 go_simp
 go_at_call 147
 refine (half_any c d v3).mono ?_
 rintro e v4 ⟨rfl,hb⟩
 have aK:=hJ hb
 clear hb
 go_wp2_with fail
 have aA:=hJ (bt aH.out aK.out)
 clear hHeld
 refine hK.out _ _ (aC.out _ aA.out) (fun hHeld=>?_)
 clear hK K
 try simp only [PT]
 refine ryy [4] ?_
 refine .cons rfl (fun K hK=>?_) .nil
 go_simp
 go_at_call 118
 refine (cmpi_any (halfV a b) (halfV c d) (cmpI (halfV a b) (halfV c d)) v4 (cmpI_is _ _)).mono ?_
 rw [HK.out]
 rintro e v5 ⟨rfl,rfl⟩
 go_wp2_with fail
 clear hHeld
 refine hK.out _ _ (aC.out _ aA.out) (fun hHeld=>?_)
 clear hK K
 refine tq 5 ?_
 try simp only [PT]
 refine wpAnyH_done (by kernel_rfl) ?_ _
 clear hHeld
 by_cases hk0:k=0
 ·subst hk0
  have HV:=hJ (show angV a b c d=cmpI (c*b) (d*a) from if_pos HK.out)
  have aL:=hJ (BX.new aF.out aA.out)
  obtain ⟨aM,aN⟩:=aL.out.c2 0 1 rfl rfl
  have aO:=hJ (BX.new aD.out aA.out)
  obtain ⟨aR,aS⟩:=aO.out.c2 0 1 rfl rfl
  go_wp2_with fail
  clear aM aN aR aS
  refine (bend_any c d a b v4 (HW.out.1) (HW.out.2)).mono ?_
  rintro e w10 ⟨rfl,hb⟩
  have aT:=hJ hb
  clear hb
  have aU:=hJ (bt (bt aG.out aA.out) aT.out)
  go_wp2
  go_ret
  exact ⟨by rw [HV.out] <;> rfl,aU.out⟩
 ·have hkz:(k == 0)=false:=by simp [hk0]
  have HV:=hJ (show angV a b c d=k by rw [angV,HK.out,if_neg hk0])
  clear hk0
  have aV:=hJ (bt aG.out aA.out)
  go_wp2
  go_ret
  exact ⟨by rw [HV.out] <;> rfl,aV.out⟩
theorem gridside_any (ax ay bx by' cx cy:Int) (w:World) (h:G3 ax ay bx by' cx cy) :
  Calls Tryz.prog 71 #[.agg #[.int .i64 ax,.int .i64 ay],.agg #[.int .i64 bx,.int .i64 by'],.agg #[.int .i64 cx,.int .i64 cy]] w fun e w'=>e=.returned (.int .i64 (sdV ax ay bx by' cx cy))∧Below w.heap.size w w':=by
 have HG:=hJ h
 clear h
 obtain ⟨x1,aA⟩:=nmz (((w.alloc (.cells #[.int .i64 ax,.int .i64 ay] 71)).alloc (.cells #[.int .i64 bx,.int .i64 by'] 71)).alloc (.cells #[.int .i64 cx,.int .i64 cy] 71))
 have aJ:=hJ (show Below w.heap.size w x1 by rw [←aA]; exact ((((Below.refl _ _).alloc (Nat.le_refl _) _).alloc (by simp only [World.size_alloc]; omega) _).alloc (by simp only [World.size_alloc]; omega) _))
 have aC:=hJ (show BX 71 x1 w.heap.size #[.int .i64 ax,.int .i64 ay] by rw [←aA]; exact (((BX.at rfl).alloc _).alloc _))
 have aD:=hJ (show BX 71 x1 (w.heap.size+1) #[.int .i64 bx,.int .i64 by'] by rw [←aA]; exact ((BX.at (by simp only [World.size_alloc])).alloc _))
 have aF:=hJ (show BX 71 x1 (w.heap.size+2) #[.int .i64 cx,.int .i64 cy] by rw [←aA]; exact (BX.at (by simp only [World.size_alloc])))
 have aB:Hid (∀ w',Below x1.heap.size x1 w'→(fun w':World=>w'.cell? ⟨w.heap.size,0,none⟩=some (.int .i64 ax)∧w'.cell? ⟨w.heap.size,1,none⟩=some (.int .i64 ay)∧w'.cell? ⟨w.heap.size+1,0,none⟩=some (.int .i64 bx)∧w'.cell? ⟨w.heap.size+1,1,none⟩=some (.int .i64 by')∧w'.cell? ⟨w.heap.size+2,0,none⟩=some (.int .i64 cx)∧w'.cell? ⟨w.heap.size+2,1,none⟩=some (.int .i64 cy)∧Below x1.heap.size x1 w') w'):=hJ (fun w' hb=>⟨(BX.new aC.out hb).cell 0 rfl,(BX.new aC.out hb).cell 1 rfl,(BX.new aD.out hb).cell 0 rfl,(BX.new aD.out hb).cell 1 rfl,(BX.new aF.out hb).cell 0 rfl,(BX.new aF.out hb).cell 1 rfl,hb⟩)
 go_enter Tryz.func71,Tryz.ntmps71
 go_wp2_with fail
 clear aA
 obtain ⟨v2,hv2⟩:=nmz (World.drew x1)
 have aK:=hJ (show Below x1.heap.size x1 v2 by rw [←hv2]; exact (Below.refl _ _).drew)
 refine whd aB hv2 (fun hHeld=>?_)
 clear hv2
 refine tq 0 ?_
 refine tq 1 ?_
 refine tq 3 ?_
 refine tq 4 ?_
 try simp only [PT]
 refine ryy [2] ?_
 refine .cons rfl (fun K hK=>?_) .nil
 go_simp
 go_at_call 116
 refine (away_any ax ay bx by' v2 (HG.out.1.1) (HG.out.1.2)).mono ?_
 rintro e v3 ⟨rfl,hb⟩
 have aL:=hJ hb
 clear hb
 go_wp2_with fail
 have aG:=hJ (bt aK.out aL.out)
 clear hHeld
 refine hK.out _ _ (aB.out _ aG.out) (fun hHeld=>?_)
 clear hK K
 try simp only [PT]
 refine ryy [5] ?_
 refine .cons rfl (fun K hK=>?_) .nil
 go_simp
 go_at_call 116
 refine (away_any ax ay cx cy v3 (HG.out.2.1.1) (HG.out.2.1.2)).mono ?_
 rintro e v4 ⟨rfl,hb⟩
 have aM:=hJ hb
 clear hb
 go_wp2_with fail
 have aH:=hJ (bt aG.out aM.out)
 clear hHeld
 refine hK.out _ _ (aB.out _ aH.out) (fun hHeld=>?_)
 clear hK K
 try simp only [PT]
 refine ryy [6] ?_
 refine .cons rfl (fun K hK=>?_) .nil
 go_simp
 go_at_call 115
 refine (bend_any (bx - ax) (by' - ay) (cx - ax) (cy - ay) v4 (HG.out.2.2.1) (HG.out.2.2.2)).mono ?_
 rintro e v5 ⟨rfl,hb⟩
 have aN:=hJ hb
 clear hb
 go_wp2_with fail
 have aI:=hJ (bt aH.out aN.out)
 clear hHeld
 refine hK.out _ _ (aB.out _ aI.out) (fun hHeld=>?_)
 clear hK K
 refine tq 7 ?_
 try simp only [PT]
 refine wpAnyH_done (by kernel_rfl) ?_ _
 clear hHeld
 have aO:=hJ (bt aJ.out aI.out)
 go_wp2
 go_ret
 exact ⟨rfl,aO.out⟩
theorem dirs_any (L:List (Int × Int)) (n g:Nat) (w:World) (hn:L.length=n) (hn2:n≤1000) (hq:BX 71 w g (ptV L).toArray) :
  Calls Tryz.prog 119 #[.slice (some ⟨g,0,none⟩) n n] w fun e w'=>e=.returned (.int .i64 (fsE diP L))∧Below w.heap.size w w':=by
 have bG:=hJ hq
 have HN:=hJ hn
 have bH:=hJ hn2
 clear hq hn hn2
 go_enter Tryz.func119,Tryz.ntmps119
 go_wp2_with fail
 go_loopw [7] (fun tv wr=>∃ i:Nat,i≤n∧tv=.int .i64 (i:Int)∧Below w.heap.size w wr∧Hid (fsE diP (L.drop i)=fsE diP L)) (fun tv _=>n - (intOf tv).toNat)
 case atStart=>exact ⟨0,by omega,rfl,Below.refl _ _,hJ rfl⟩
 case round =>
  obtain ⟨i,hi,rfl,hbel,HI⟩:=hrel
  obtain ⟨wl1,rfl⟩:∃ W:World,W=wr:=⟨_,rfl⟩
  have aB:=hJ hbel
  clear hbel
  have h0i:(0:Int)≤(i:Int):=by omega
  by_cases hlt:i < n
  ·obtain ⟨⟨x,y⟩,hp⟩:∃ p,L[i]?=some p:=⟨_,List.getElem?_eq_getElem (by rw [HN.out]; exact hlt)⟩
   have bJ:=hJ (ptV_get hp).1
   have bK:=hJ (ptV_get hp).2
   have HD:=hJ (fs_drop (f:=diP) hp)
   have hlt2:(i:Int) < (n:Int):=by omega
   have hw1:IntKind.i64.wrap ((i:Int)+1)=(i:Int)+1:=IntWalk.i64_in _ (by have:=bH.out; omega)
   clear hp
   have bC:=hJ (BX.new bG.out aB.out)
   have aC:=bC.out.cell (i*2) bJ.out
   have aD:=bC.out.cell (i*2+1) bK.out
   rcases (show (x < y∧2147483648 < y)∨(x < y∧y≤2147483648∧x < -2147483648)∨(x < y∧y≤2147483648 ∧ -2147483648≤x∧¬ x=0)∨(x < y∧y≤2147483648 ∧ -2147483648≤x∧x=0∧¬ y=0)∨(y < x∧2147483648 < x)∨(y < x∧x≤2147483648∧y < -2147483648)∨(y < x∧x≤2147483648 ∧ -2147483648≤y∧¬ x=0)∨(y < x∧x≤2147483648 ∧ -2147483648≤y∧x=0∧¬ y=0)∨((x≤y∧y≤x)∧2147483648 < x)∨((x≤y∧y≤x)∧x≤2147483648∧x < -2147483648)∨((x≤y∧y≤x)∧x≤2147483648 ∧ -2147483648≤x∧¬ x=0)∨(x=0∧y=0) by omega) with ⟨q1,q2⟩ | ⟨q1,q2,q3⟩ | ⟨q1,q2,q3,q4⟩ | ⟨q1,q2,q3,q4,q5⟩ | ⟨q1,q2⟩ | ⟨q1,q2,q3⟩ | ⟨q1,q2,q3,q4⟩ | ⟨q1,q2,q3,q4,q5⟩ | ⟨⟨q1,q0⟩,q2⟩ | ⟨⟨q1,q0⟩,q2,q3⟩ | ⟨⟨q1,q0⟩,q2,q3,q4⟩ | ⟨q1,q2⟩
   ·have h5:diP (x,y)=5:=if_pos (by omega)
    have HR:=hJ (show fsE diP L=5 by rw [←HI.out,HD.out,if_neg (by rw [h5]; decide)]; exact h5)
    clear h5
    obtain ⟨x8,aO⟩:=nmz (wl1.alloc (.cells #[.int .i64 x,.int .i64 y] 71))
    have bL:=hJ (show Below wl1.heap.size wl1 x8 by rw [←aO]; exact ((Below.refl _ _).alloc (Nat.le_refl _) _))
    have bD:=hJ (show BX 71 x8 wl1.heap.size #[.int .i64 x,.int .i64 y] by rw [←aO]; exact (BX.at rfl))
    have bM:=bD.out.cell 0 rfl
    have bN:=bD.out.cell 1 rfl
    have aA:=hJ (bt aB.out bL.out)
    go_wp2
    clear aC aD aO bM bN
    go_ret
    exact ⟨by rw [HR.out] <;> rfl,aA.out⟩
   ·have h5:diP (x,y)=5:=if_pos (by omega)
    have HR:=hJ (show fsE diP L=5 by rw [←HI.out,HD.out,if_neg (by rw [h5]; decide)]; exact h5)
    clear h5
    obtain ⟨x11,aR⟩:=nmz (wl1.alloc (.cells #[.int .i64 x,.int .i64 y] 71))
    have bO:=hJ (show Below wl1.heap.size wl1 x11 by rw [←aR]; exact ((Below.refl _ _).alloc (Nat.le_refl _) _))
    have aL:=hJ (show BX 71 x11 wl1.heap.size #[.int .i64 x,.int .i64 y] by rw [←aR]; exact (BX.at rfl))
    have bP:=aL.out.cell 0 rfl
    have bQ:=aL.out.cell 1 rfl
    have bR:=aL.out.cell 0 rfl
    have bS:=aL.out.cell 1 rfl
    have aA:=hJ (bt aB.out bO.out)
    go_wp2
    clear aC aD aR bP bQ bR bS
    go_ret
    exact ⟨by rw [HR.out] <;> rfl,aA.out⟩
   ·have HF:=hJ (show fsE diP (L.drop (i+1))=fsE diP L by rw [←HI.out,HD.out,if_pos (show diP (x,y)=0 from (if_neg (by omega)).trans (if_neg (by omega)))])
    obtain ⟨x16,aS⟩:=nmz (wl1.alloc (.cells #[.int .i64 x,.int .i64 y] 71))
    have bT:=hJ (show Below wl1.heap.size wl1 x16 by rw [←aS]; exact ((Below.refl _ _).alloc (Nat.le_refl _) _))
    have aF:=hJ (show BX 71 x16 wl1.heap.size #[.int .i64 x,.int .i64 y] by rw [←aS]; exact (BX.at rfl))
    have bU:=aF.out.cell 0 rfl
    have bV:=aF.out.cell 1 rfl
    have bW:=aF.out.cell 0 rfl
    have bX:=aF.out.cell 1 rfl
    obtain ⟨bY,bZ⟩:=aF.out.c2 0 1 rfl rfl
    have aA:=hJ (bt aB.out bT.out)
    go_wp2_with fail
    clear aC aD aS bU bV bW bX bY bZ
    go_roundw
    case rel=>exact ⟨i+1,by omega,by go_num,aA.out,HF⟩
    case measure=>simp [intOf] <;> omega
   ·have HF:=hJ (show fsE diP (L.drop (i+1))=fsE diP L by rw [←HI.out,HD.out,if_pos (show diP (x,y)=0 from (if_neg (by omega)).trans (if_neg (by omega)))])
    have q6:(x == 0)=true:=by simp [q4]
    clear q4
    obtain ⟨x23,aT⟩:=nmz (wl1.alloc (.cells #[.int .i64 x,.int .i64 y] 71))
    have cA:=hJ (show Below wl1.heap.size wl1 x23 by rw [←aT]; exact ((Below.refl _ _).alloc (Nat.le_refl _) _))
    have aG:=hJ (show BX 71 x23 wl1.heap.size #[.int .i64 x,.int .i64 y] by rw [←aT]; exact (BX.at rfl))
    have cB:=aG.out.cell 0 rfl
    have cC:=aG.out.cell 1 rfl
    have cD:=aG.out.cell 0 rfl
    have cE:=aG.out.cell 1 rfl
    obtain ⟨cF,cG⟩:=aG.out.c2 0 1 rfl rfl
    have aA:=hJ (bt aB.out cA.out)
    go_wp2_with fail
    all_goals (first | (exfalso; have e1:x=0:=(by simpa using q6); contradiction) | skip)
    clear aC aD aT cB cC cD cE cF cG
    go_roundw
    case rel=>exact ⟨i+1,by omega,by go_num,aA.out,HF⟩
    case measure=>simp [intOf] <;> omega
   ·have h5:diP (x,y)=5:=if_pos (by omega)
    have HR:=hJ (show fsE diP L=5 by rw [←HI.out,HD.out,if_neg (by rw [h5]; decide)]; exact h5)
    clear h5
    obtain ⟨x30,aU⟩:=nmz (wl1.alloc (.cells #[.int .i64 x,.int .i64 y] 71))
    have cH:=hJ (show Below wl1.heap.size wl1 x30 by rw [←aU]; exact ((Below.refl _ _).alloc (Nat.le_refl _) _))
    have bE:=hJ (show BX 71 x30 wl1.heap.size #[.int .i64 x,.int .i64 y] by rw [←aU]; exact (BX.at rfl))
    have cI:=bE.out.cell 0 rfl
    have cJ:=bE.out.cell 1 rfl
    have aA:=hJ (bt aB.out cH.out)
    go_wp2
    clear aC aD aU cI cJ
    go_ret
    exact ⟨by rw [HR.out] <;> rfl,aA.out⟩
   ·have h5:diP (x,y)=5:=if_pos (by omega)
    have HR:=hJ (show fsE diP L=5 by rw [←HI.out,HD.out,if_neg (by rw [h5]; decide)]; exact h5)
    clear h5
    obtain ⟨x33,aV⟩:=nmz (wl1.alloc (.cells #[.int .i64 x,.int .i64 y] 71))
    have cK:=hJ (show Below wl1.heap.size wl1 x33 by rw [←aV]; exact ((Below.refl _ _).alloc (Nat.le_refl _) _))
    have aM:=hJ (show BX 71 x33 wl1.heap.size #[.int .i64 x,.int .i64 y] by rw [←aV]; exact (BX.at rfl))
    have cL:=aM.out.cell 0 rfl
    have cM:=aM.out.cell 1 rfl
    have cN:=aM.out.cell 0 rfl
    have cO:=aM.out.cell 1 rfl
    have aA:=hJ (bt aB.out cK.out)
    go_wp2
    clear aC aD aV cL cM cN cO
    go_ret
    exact ⟨by rw [HR.out] <;> rfl,aA.out⟩
   ·have HF:=hJ (show fsE diP (L.drop (i+1))=fsE diP L by rw [←HI.out,HD.out,if_pos (show diP (x,y)=0 from (if_neg (by omega)).trans (if_neg (by omega)))])
    obtain ⟨x38,aW⟩:=nmz (wl1.alloc (.cells #[.int .i64 x,.int .i64 y] 71))
    have cP:=hJ (show Below wl1.heap.size wl1 x38 by rw [←aW]; exact ((Below.refl _ _).alloc (Nat.le_refl _) _))
    have aH:=hJ (show BX 71 x38 wl1.heap.size #[.int .i64 x,.int .i64 y] by rw [←aW]; exact (BX.at rfl))
    have cQ:=aH.out.cell 0 rfl
    have cR:=aH.out.cell 1 rfl
    have cS:=aH.out.cell 0 rfl
    have cT:=aH.out.cell 1 rfl
    obtain ⟨cU,cV⟩:=aH.out.c2 0 1 rfl rfl
    have aA:=hJ (bt aB.out cP.out)
    go_wp2_with fail
    clear aC aD aW cQ cR cS cT cU cV
    go_roundw
    case rel=>exact ⟨i+1,by omega,by go_num,aA.out,HF⟩
    case measure=>simp [intOf] <;> omega
   ·have HF:=hJ (show fsE diP (L.drop (i+1))=fsE diP L by rw [←HI.out,HD.out,if_pos (show diP (x,y)=0 from (if_neg (by omega)).trans (if_neg (by omega)))])
    have q6:(x == 0)=true:=by simp [q4]
    clear q4
    obtain ⟨x45,aX⟩:=nmz (wl1.alloc (.cells #[.int .i64 x,.int .i64 y] 71))
    have cW:=hJ (show Below wl1.heap.size wl1 x45 by rw [←aX]; exact ((Below.refl _ _).alloc (Nat.le_refl _) _))
    have aI:=hJ (show BX 71 x45 wl1.heap.size #[.int .i64 x,.int .i64 y] by rw [←aX]; exact (BX.at rfl))
    have cX:=aI.out.cell 0 rfl
    have cY:=aI.out.cell 1 rfl
    have cZ:=aI.out.cell 0 rfl
    have dA:=aI.out.cell 1 rfl
    obtain ⟨dB,dD⟩:=aI.out.c2 0 1 rfl rfl
    have aA:=hJ (bt aB.out cW.out)
    go_wp2_with fail
    all_goals (first | (exfalso; have e1:x=0:=(by simpa using q6); contradiction) | skip)
    clear aC aD aX cX cY cZ dA dB dD
    go_roundw
    case rel=>exact ⟨i+1,by omega,by go_num,aA.out,HF⟩
    case measure=>simp [intOf] <;> omega
   ·have h5:diP (x,y)=5:=if_pos (by omega)
    have HR:=hJ (show fsE diP L=5 by rw [←HI.out,HD.out,if_neg (by rw [h5]; decide)]; exact h5)
    clear h5
    obtain ⟨x52,aY⟩:=nmz (wl1.alloc (.cells #[.int .i64 x,.int .i64 y] 71))
    have dE:=hJ (show Below wl1.heap.size wl1 x52 by rw [←aY]; exact ((Below.refl _ _).alloc (Nat.le_refl _) _))
    have bF:=hJ (show BX 71 x52 wl1.heap.size #[.int .i64 x,.int .i64 y] by rw [←aY]; exact (BX.at rfl))
    have dF:=bF.out.cell 0 rfl
    have dG:=bF.out.cell 1 rfl
    have aA:=hJ (bt aB.out dE.out)
    go_wp2
    clear aC aD aY dF dG
    go_ret
    exact ⟨by rw [HR.out] <;> rfl,aA.out⟩
   ·have h5:diP (x,y)=5:=if_pos (by omega)
    have HR:=hJ (show fsE diP L=5 by rw [←HI.out,HD.out,if_neg (by rw [h5]; decide)]; exact h5)
    clear h5
    obtain ⟨x55,aZ⟩:=nmz (wl1.alloc (.cells #[.int .i64 x,.int .i64 y] 71))
    have dH:=hJ (show Below wl1.heap.size wl1 x55 by rw [←aZ]; exact ((Below.refl _ _).alloc (Nat.le_refl _) _))
    have aN:=hJ (show BX 71 x55 wl1.heap.size #[.int .i64 x,.int .i64 y] by rw [←aZ]; exact (BX.at rfl))
    have dI:=aN.out.cell 0 rfl
    have dJ:=aN.out.cell 1 rfl
    have dK:=aN.out.cell 0 rfl
    have dL:=aN.out.cell 1 rfl
    have aA:=hJ (bt aB.out dH.out)
    go_wp2
    clear aC aD aZ dI dJ dK dL
    go_ret
    exact ⟨by rw [HR.out] <;> rfl,aA.out⟩
   ·have HF:=hJ (show fsE diP (L.drop (i+1))=fsE diP L by rw [←HI.out,HD.out,if_pos (show diP (x,y)=0 from (if_neg (by omega)).trans (if_neg (by omega)))])
    obtain ⟨x60,bA⟩:=nmz (wl1.alloc (.cells #[.int .i64 x,.int .i64 y] 71))
    have dM:=hJ (show Below wl1.heap.size wl1 x60 by rw [←bA]; exact ((Below.refl _ _).alloc (Nat.le_refl _) _))
    have aJ:=hJ (show BX 71 x60 wl1.heap.size #[.int .i64 x,.int .i64 y] by rw [←bA]; exact (BX.at rfl))
    have dN:=aJ.out.cell 0 rfl
    have dO:=aJ.out.cell 1 rfl
    have dP:=aJ.out.cell 0 rfl
    have dQ:=aJ.out.cell 1 rfl
    obtain ⟨dR,dS⟩:=aJ.out.c2 0 1 rfl rfl
    have aA:=hJ (bt aB.out dM.out)
    go_wp2_with fail
    clear aC aD bA dN dO dP dQ dR dS
    go_roundw
    case rel=>exact ⟨i+1,by omega,by go_num,aA.out,HF⟩
    case measure=>simp [intOf] <;> omega
   have h5:diP (x,y)=1:=by rw [q1,q2]; rfl
   have HR:=hJ (show fsE diP L=1 by rw [←HI.out,HD.out,if_neg (by rw [h5]; decide)]; exact h5)
   clear h5
   have q3:(x == 0)=true:=by simp [q1]
   have q4:(y == 0)=true:=by simp [q2]
   have q6:x≤y:=by omega
   have q7:y≤x:=by omega
   have q8:x≤2147483648:=by omega
   have q9 : -2147483648≤x:=by omega
   clear q1 q2
   obtain ⟨x67,bB⟩:=nmz (wl1.alloc (.cells #[.int .i64 x,.int .i64 y] 71))
   have dT:=hJ (show Below wl1.heap.size wl1 x67 by rw [←bB]; exact ((Below.refl _ _).alloc (Nat.le_refl _) _))
   have aK:=hJ (show BX 71 x67 wl1.heap.size #[.int .i64 x,.int .i64 y] by rw [←bB]; exact (BX.at rfl))
   have dU:=aK.out.cell 0 rfl
   have dW:=aK.out.cell 1 rfl
   have dX:=aK.out.cell 0 rfl
   have dY:=aK.out.cell 1 rfl
   obtain ⟨dZ,eA⟩:=aK.out.c2 0 1 rfl rfl
   have aA:=hJ (bt aB.out dT.out)
   go_wp2
   all_goals (first | (exfalso; have e1:x=0:=(by simpa using q3); contradiction) | skip)
   all_goals (first | (exfalso; have e1:y=0:=(by simpa using q4); contradiction) | skip)
   clear aC aD bB dU dW dX dY dZ eA
   go_ret
   exact ⟨by rw [HR.out] <;> rfl,aA.out⟩
  ·have hlt2:¬ (i:Int) < (n:Int):=by omega
   have HR:=hJ (show fsE diP L=0 by rw [←HI.out,List.drop_of_length_le (by rw [HN.out]; omega)]; rfl)
   go_wp2
   go_ret
   exact ⟨by rw [HR.out] <;> rfl,aB.out⟩
theorem valids_any (L:List (Int × Int)) (n g:Nat) (w:World) (hn:L.length=n) (hn2:n≤1000) (hq:BX 71 w g (ptV L).toArray) :
  Calls Tryz.prog 82 #[.slice (some ⟨g,0,none⟩) n n] w fun e w'=>e=.returned (.int .i64 (fsE vdP L))∧Below w.heap.size w w':=by
 have aH:=hJ hq
 have HN:=hJ hn
 have aI:=hJ hn2
 clear hq hn hn2
 go_enter Tryz.func82,Tryz.ntmps82
 go_wp2_with fail
 go_loopw [8] (fun tv wr=>∃ i:Nat,i≤n∧tv=.int .i64 (i:Int)∧Below w.heap.size w wr∧Hid (fsE vdP (L.drop i)=fsE vdP L)) (fun tv _=>n - (intOf tv).toNat)
 case atStart=>exact ⟨0,by omega,rfl,Below.refl _ _,hJ rfl⟩
 case round =>
  obtain ⟨i,hi,rfl,hbel,HI⟩:=hrel
  obtain ⟨wl1,rfl⟩:∃ W:World,W=wr:=⟨_,rfl⟩
  have aA:=hJ hbel
  clear hbel
  have h0i:(0:Int)≤(i:Int):=by omega
  by_cases hlt:i < n
  ·obtain ⟨⟨x,y⟩,hp⟩:∃ p,L[i]?=some p:=⟨_,List.getElem?_eq_getElem (by rw [HN.out]; exact hlt)⟩
   have aJ:=hJ (ptV_get hp).1
   have aK:=hJ (ptV_get hp).2
   have HD:=hJ (fs_drop (f:=vdP) hp)
   have hlt2:(i:Int) < (n:Int):=by omega
   have hw1:IntKind.i64.wrap ((i:Int)+1)=(i:Int)+1:=IntWalk.i64_in _ (by have:=aI.out; omega)
   clear hp
   have aD:=hJ (BX.new aH.out aA.out)
   have aL:=aD.out.cell (i*2) aJ.out
   have aM:=aD.out.cell (i*2+1) aK.out
   obtain ⟨x8,aB⟩:=nmz (wl1.alloc (.cells #[.int .i64 x,.int .i64 y] 71))
   have aF:=hJ (show Below wl1.heap.size wl1 x8 by rw [←aB]; exact ((Below.refl _ _).alloc (Nat.le_refl _) _))
   have aN:=hJ (show BX 71 x8 wl1.heap.size #[.int .i64 x,.int .i64 y] by rw [←aB]; exact (BX.at rfl))
   obtain ⟨aO,aR⟩:=aN.out.c2 0 1 rfl rfl
   go_wp2_with fail
   clear aL aM aB aO aR
   refine (validp_any x y x8).mono ?_
   rintro e w11 ⟨rfl,hb⟩
   have aG:=hJ hb
   clear hb
   by_cases hv:vdP (x,y)=0
   ·have HF:=hJ (show fsE vdP (L.drop (i+1))=fsE vdP L by rw [←HI.out,HD.out,if_pos (show vdP (x,y)=0 from hv)])
    have hvb:(vdP (x,y) == 0)=true:=by simp [hv]
    have aC:=hJ (bt (bt aA.out aF.out) aG.out)
    go_wp2_with fail
    go_roundw
    case rel=>exact ⟨i+1,by omega,by go_num,aC.out,HF⟩
    case measure=>simp [intOf] <;> omega
   have HR:=hJ (show fsE vdP L=vdP (x,y) by rw [←HI.out,HD.out,if_neg hv])
   have hvb:(vdP (x,y) == 0)=false:=by simp [hv]
   have aC:=hJ (bt (bt aA.out aF.out) aG.out)
   go_wp2
   go_ret
   exact ⟨by rw [HR.out] <;> rfl,aC.out⟩
  ·have hlt2:¬ (i:Int) < (n:Int):=by omega
   have HR:=hJ (show fsE vdP L=0 by rw [←HI.out,List.drop_of_length_le (by rw [HN.out]; omega)]; rfl)
   go_wp2
   go_ret
   exact ⟨by rw [HR.out] <;> rfl,aA.out⟩
end Go.Proofs.YtbgfmegepekapaaGreat
