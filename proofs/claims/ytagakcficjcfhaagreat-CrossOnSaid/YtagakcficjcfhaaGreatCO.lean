/- The walk of the law CrossOn. -/
import Derived.Test.YtagakcficjcfhaaGreatB2
import Derived.Test.YtagakcficjcfhaaGreatB5
import Derived.Test.YtagakcficjcfhaaGreatCA
import Derived.Test.YtagakcficjcfhaaGreatCD
import Derived.Test.YtagakcficjcfhaaGreatCF
import Derived.Test.YtagakcficjcfhaaGreatCG
import Derived.Test.YtagakcficjcfhaaGreatCI
import Derived.Test.YtagakcficjcfhaaGreatEA
import Derived.Test.YtagakcficjcfhaaGreatEZ
import Derived.Test.YtagakcficjcfhaaGreatFD
import Derived.Test.YtagakcficjcfhaaGreatQL
import Derived.Test.YtagakcficjcfhaaGreatSCM
namespace Go.Proofs.YtagakcficjcfhaaGreat
open Go.RowKit
attribute [local go_sem ↓] Go.wp_at_zero Go.wp_at_succ
set_option linter.unusedVariables false
set_option linter.unusedSimpArgs false
def p3V:List (Int × Int × Int)→List Value
 | []=>[]
 | p :: l=>.int .i64 p.1 :: .int .i64 p.2.1 :: .int .i64 p.2.2 :: p3V l
theorem p3V_get {l:List (Int × Int × Int)} {i:Nat} {x y z:Int} (h:l[i]?=some (x,y,z)):(p3V l).toArray[i*3]?=some (.int .i64 x)∧(p3V l).toArray[i*3+1]?=some (.int .i64 y)∧(p3V l).toArray[i*3+2]?=some (.int .i64 z):=by
 rw [List.getElem?_toArray,List.getElem?_toArray,List.getElem?_toArray]
 induction l generalizing i with
 | nil=>simp at h
 | cons q l ih =>
  match i with
  | 0=>simp at h; subst h; exact ⟨rfl,rfl,rfl⟩
  | i+1 =>
   have:=ih (i:=i) (by simpa using h)
   rw [show (i+1)*3=i*3+1+1+1 by omega]
   exact this
theorem get3 {l:List (Int × Int × Int)} {n i:Nat} (h:l.length=n) (hi:i < n):∃ x y z,l[i]?=some (x,y,z):=⟨_,_,_,List.getElem?_eq_getElem (by omega)⟩
theorem get3_mem {l:List (Int × Int × Int)} {i:Nat} {x y z:Int} {P:Int→Int→Int→Prop} (h:∀ p ∈ l,P p.1 p.2.1 p.2.2) (hx:l[i]?=some (x,y,z)):P x y z:=h _ (List.mem_of_getElem? hx)
theorem sm_on1 {x y:Int} (hx:0≤x∧x≤33) (hy:0≤y∧y≤33):Sm x y 1:=⟨by omega,by omega,by omega,fun _ _=>rfl⟩
theorem sm_d1 {X Y D:Int} (h:Sm X Y D):D1 D=D:=by have:=h.1; unfold D1; omega
theorem sm_wf3 {X Y D:Int} (h:Sm X Y D):Wf3 X Y D:=by
 obtain ⟨h1,h2,h3,_⟩:=h
 exact ⟨⟨WalkArith.wf_i64 (by omega),WalkArith.wf_i64 (by omega)⟩,WalkArith.wf_i64 (by omega)⟩
theorem sm_pz {X Y D:Int} (h:Sm X Y D):Pz X Y D:=by
 obtain ⟨h1,h2,h3,_⟩:=h
 unfold Pz Nk
 omega
theorem sm_ob {ax ay bx by' X Y D:Int} (g:Sg7 ax ay bx by') (h:Sm X Y D):Ob ax ay bx by' X Y D:=by
 obtain ⟨h1,h2,h3,_⟩:=h
 obtain ⟨g1,_⟩:=g
 unfold Ob
 omega
theorem sg_vs {ax ay bx by':Int} (g:Sg7 ax ay bx by'):(vdP (ax,ay)=0∧vdP (bx,by')=0)∧¬ (ax=bx∧ay=by'):=by
 obtain ⟨⟨g1,g2,g3,g4⟩,h⟩:=g
 refine ⟨⟨if_pos ?_,if_pos ?_⟩,h⟩ <;> dsimp only <;> omega
theorem mk_b {x y d X Y D:Int} (h:MkR x y d X Y D) (hd:0 < d):(X.natAbs≤x.natAbs∧Y.natAbs≤y.natAbs)∧D≤d:=by
 obtain ⟨g,hg,rfl,rfl,rfl,_⟩:=h
 refine ⟨⟨?_,?_⟩,?_⟩
 ·rw [Int.natAbs_mul]; exact Nat.le_mul_of_pos_left _ (by omega)
 ·rw [Int.natAbs_mul]; exact Nat.le_mul_of_pos_left _ (by omega)
 ·rcases (show D≤0∨0 < D by omega) with k | k
  ·have:=Int.mul_nonpos_of_nonneg_of_nonpos (show 0≤g by omega) k; omega
  ·have:=Int.mul_le_mul_of_nonneg_right (show 1≤g by omega) (show 0≤D by omega); omega
theorem sm_m1 {ax ay bx by' A B C:Int} (g:Sg7 ax ay bx by') (h:MkR (ax*1+bx*1) (ay*1+by'*1) (2*(1*1)) A B C) (hC:0 < C):Sm A B C∧(A.natAbs≤66∧B.natAbs≤66)∧C≤2:=by
 have:=g.1
 have hb:=mk_b h (by omega)
 exact ⟨sm_of h hC (by omega) (by omega) (by omega) (by omega),by omega⟩
theorem sm_m2 {ax ay bx by' X Y D A B C:Int} (g:Sg7 ax ay bx by') (hm:Sm X Y D∧(X.natAbs≤66∧Y.natAbs≤66)∧D≤2) (h:MkR (ax*D+X*1) (ay*D+Y*1) (2*(1*D)) A B C) (hC:0 < C):Sm A B C:=by
 have h1:=g.1
 obtain ⟨⟨h2,_⟩,h3,h4⟩:=hm
 rcases (show D=1∨D=2 by omega) with rfl | rfl <;> exact sm_of h hC (by omega) (by omega) (by omega) (by omega)
theorem sm_k {ax ay bx by' X Y D:Int} (g:Sg7 ax ay bx by') (h:MkR (2*ax - bx) (2*ay - by') 1 X Y D) (hD:0 < D):Sm X Y D:=by
 have h1:=g.1
 exact sm_of h hD (by omega) (by omega) (by omega) (by omega)
theorem sm_k2 {ax ay bx by' X Y D:Int} (g:Sg7 ax ay bx by') (h:MkR (3*bx - ax) (3*by' - ay) 2 X Y D) (hD:0 < D):Sm X Y D:=by
 have h1:=g.1
 exact sm_of h hD (by omega) (by omega) (by omega) (by omega)
theorem i6_k {ax ay bx by':Int} (g:Sg7 ax ay bx by'):(I6 (2*ax)∧I6 (2*ax - bx)∧I6 (2*ay)∧I6 (2*ay - by'))∧I6 (3*bx)∧I6 (3*bx - ax)∧I6 (3*by')∧I6 (3*by' - ay):=by
 have h1:=g.1
 unfold I6
 omega
theorem sm_sb1 {x y:Int} (hx:0≤x∧x≤33) (hy:0≤y∧y≤33):Sb x y 1:=(sm_on1 hx hy).sb
set_option maxRecDepth 100000 in
set_option maxHeartbeats 12800000 in
theorem crossOn_walk (n m k p:Int) (w:World) (hw:(Lit.int .i64 n).wf=true∧(Lit.int .i64 m).wf=true∧(Lit.int .i64 k).wf=true∧(Lit.int .i64 p).wf=true) :
  Calls Tryz.prog 5 #[.int .i64 n,.int .i64 m,.int .i64 k,.int .i64 p] w fun e w'=>e=.returned (.bool true)∧Below w.heap.size w w':=by
 have aM:=hJ hw
 clear hw
 go_enter Tryz.func5,Tryz.ntmps5
 go_wp2_with fail
 refine (rseg_any n m w aM.out.1 aM.out.2.1).mono ?_
 rintro e w1 ⟨ax,ay,bx,by',rfl,hsg,hb⟩
 have cE:=hJ hb
 clear hb
 have aA:=hJ hsg
 clear hsg
 obtain ⟨x2,aS⟩:=nmz (w1.alloc (.cells #[.int .i64 ax,.int .i64 ay,.int .i64 bx,.int .i64 by'] 25))
 have cF:=hJ (show Below w1.heap.size w1 x2 by rw [←aS]; exact ((Below.refl _ _).alloc (Nat.le_refl _) _))
 have bK:=hJ (show BX 25 x2 w1.heap.size #[.int .i64 ax,.int .i64 ay,.int .i64 bx,.int .i64 by'] by rw [←aS]; exact (BX.at rfl))
 obtain ⟨cG,cH⟩:=bK.out.c2 0 1 rfl rfl
 go_wp2_with fail
 clear aS cG cH
 refine (rof_any ax ay x2).mono ?_
 rintro e w5 ⟨rfl,hb⟩
 have bL:=hJ hb
 clear hb
 obtain ⟨x6,aT⟩:=nmz (w5.alloc (.cells #[.int .i64 ax,.int .i64 ay,.int .i64 1] 47))
 have bM:=hJ (show Below w5.heap.size w5 x6 by rw [←aT]; exact ((Below.refl _ _).alloc (Nat.le_refl _) _))
 have cI:=hJ (show BX 47 x6 w5.heap.size #[.int .i64 ax,.int .i64 ay,.int .i64 1] by rw [←aT]; exact (BX.at rfl))
 have cJ:=hJ (bt bL.out bM.out)
 have bN:=hJ (BX.new bK.out cJ.out)
 obtain ⟨cK,cL⟩:=bN.out.c2 2 3 rfl rfl
 go_wp2_with fail
 clear aT cK cL
 refine (rof_any bx by' x6).mono ?_
 rintro e w9 ⟨rfl,hb⟩
 have bO:=hJ hb
 clear hb
 obtain ⟨x10,aU⟩:=nmz (w9.alloc (.cells #[.int .i64 bx,.int .i64 by',.int .i64 1] 47))
 have bP:=hJ (show Below w9.heap.size w9 x10 by rw [←aU]; exact ((Below.refl _ _).alloc (Nat.le_refl _) _))
 have aO:=hJ (show BX 47 x10 w9.heap.size #[.int .i64 bx,.int .i64 by',.int .i64 1] by rw [←aU]; exact (BX.at rfl))
 have bQ:=hJ (bt bO.out bP.out)
 have aR:=hJ (BX.new cI.out bQ.out)
 have cM:=aR.out.cell 0 rfl
 have cN:=aR.out.cell 1 rfl
 have cO:=aR.out.cell 2 rfl
 have cP:=aO.out.cell 0 rfl
 have cQ:=aO.out.cell 1 rfl
 have cR:=aO.out.cell 2 rfl
 go_wp2_with fail
 clear aU cM cN cO cP cQ cR
 refine (rmid_any ax ay 1 bx by' 1 x10 (sm_sb1 aA.out.1.1 aA.out.1.2.1) (sm_sb1 aA.out.1.2.2.1 aA.out.1.2.2.2)).mono ?_
 rintro e w17 ⟨mx,my,md,rfl,hmk,hc0,hb⟩
 have aV:=hJ hb
 clear hb
 have aW:=hJ (sm_m1 aA.out hmk hc0)
 clear hmk hc0
 obtain ⟨x18,aX⟩:=nmz (w17.alloc (.cells #[.int .i64 mx,.int .i64 my,.int .i64 md] 47))
 have aY:=hJ (show Below w17.heap.size w17 x18 by rw [←aX]; exact ((Below.refl _ _).alloc (Nat.le_refl _) _))
 have aZ:=hJ (show BX 47 x18 w17.heap.size #[.int .i64 mx,.int .i64 my,.int .i64 md] by rw [←aX]; exact (BX.at rfl))
 have bR:=hJ (bt aV.out aY.out)
 have bA:=hJ (BX.new aR.out bR.out)
 have bB:=hJ (BX.new aO.out bR.out)
 have aD:Hid (∀ w',Below x18.heap.size x18 w'→(fun w':World=>w'.cell? ⟨w5.heap.size,0,none⟩=some (.int .i64 ax)∧w'.cell? ⟨w5.heap.size,1,none⟩=some (.int .i64 ay)∧w'.cell? ⟨w5.heap.size,2,none⟩=some (.int .i64 1)∧w'.cell? ⟨w9.heap.size,0,none⟩=some (.int .i64 bx)∧w'.cell? ⟨w9.heap.size,1,none⟩=some (.int .i64 by')∧w'.cell? ⟨w9.heap.size,2,none⟩=some (.int .i64 1)∧w'.cell? ⟨w17.heap.size,0,none⟩=some (.int .i64 mx)∧w'.cell? ⟨w17.heap.size,1,none⟩=some (.int .i64 my)∧w'.cell? ⟨w17.heap.size,2,none⟩=some (.int .i64 md)∧Below x18.heap.size x18 w') w'):=hJ (fun w' hb=>⟨(BX.new bA.out hb).cell 0 rfl,(BX.new bA.out hb).cell 1 rfl,(BX.new bA.out hb).cell 2 rfl,(BX.new bB.out hb).cell 0 rfl,(BX.new bB.out hb).cell 1 rfl,(BX.new bB.out hb).cell 2 rfl,(BX.new aZ.out hb).cell 0 rfl,(BX.new aZ.out hb).cell 1 rfl,(BX.new aZ.out hb).cell 2 rfl,hb⟩)
 go_wp2_with fail
 clear aX
 obtain ⟨v19,hv19⟩:=nmz (World.drew x18)
 have cS:=hJ (show Below x18.heap.size x18 v19 by rw [←hv19]; exact (Below.refl _ _).drew)
 refine whd aD hv19 (fun hHeld=>?_)
 clear hv19
 refine tq 0 ?_
 refine tq 1 ?_
 refine tq 2 ?_
 refine tq 3 ?_
 refine tq 4 ?_
 refine tq 6 ?_
 refine tq 8 ?_
 refine tq 10 ?_
 refine tq 11 ?_
 try simp only [PT]
 refine tk 12 (.int .i64 (2*ax)) ?_ ?_
 ·intro w hSw
  (try dsimp only at hSw)
  go_simp
  rw [i6_wrap (i6_k aA.out).1.1]
 refine tq 13 ?_
 refine tq 14 ?_
 try simp only [PT]
 refine tk 15 (.int .i64 ((2*ax) - bx)) ?_ ?_
 ·intro w hSw
  (try dsimp only at hSw)
  go_simp
  rw [i6_wrap (i6_k aA.out).1.2.1]
 refine tq 16 ?_
 refine tq 17 ?_
 try simp only [PT]
 refine tk 18 (.int .i64 (2*ay)) ?_ ?_
 ·intro w hSw
  (try dsimp only at hSw)
  go_simp
  rw [i6_wrap (i6_k aA.out).1.2.2.1]
 refine tq 19 ?_
 refine tq 20 ?_
 try simp only [PT]
 refine tk 21 (.int .i64 ((2*ay) - by')) ?_ ?_
 ·intro w hSw
  (try dsimp only at hSw)
  go_simp
  rw [i6_wrap (i6_k aA.out).1.2.2.2]
 refine tq 23 ?_
 refine tq 24 ?_
 try simp only [PT]
 refine tk 25 (.int .i64 (3*bx)) ?_ ?_
 ·intro w hSw
  (try dsimp only at hSw)
  go_simp
  rw [i6_wrap (i6_k aA.out).2.1]
 refine tq 26 ?_
 refine tq 27 ?_
 try simp only [PT]
 refine tk 28 (.int .i64 ((3*bx) - ax)) ?_ ?_
 ·intro w hSw
  (try dsimp only at hSw)
  go_simp
  rw [i6_wrap (i6_k aA.out).2.2.1]
 refine tq 29 ?_
 refine tq 30 ?_
 try simp only [PT]
 refine tk 31 (.int .i64 (3*by')) ?_ ?_
 ·intro w hSw
  (try dsimp only at hSw)
  go_simp
  rw [i6_wrap (i6_k aA.out).2.2.2.1]
 refine tq 32 ?_
 refine tq 33 ?_
 try simp only [PT]
 refine tk 34 (.int .i64 ((3*by') - ay)) ?_ ?_
 ·intro w hSw
  (try dsimp only at hSw)
  go_simp
  rw [i6_wrap (i6_k aA.out).2.2.2.2]
 try simp only [PT]
 refine ryy [5] ?_
 refine .cons rfl (fun K hK=>?_) .nil
 go_simp
 go_at_call 27
 refine (rmid_any ax ay 1 mx my md v19 (sm_sb1 aA.out.1.1 aA.out.1.2.1) aW.out.1.sb).mono ?_
 rintro e v20 ⟨ex,ey,ed,rfl,hmk,hc0,hb⟩
 have cT:=hJ hb
 clear hb
 have cU:=hJ (sm_m2 aA.out aW.out hmk hc0)
 clear hmk hc0
 go_wp2_with fail
 have bS:=hJ (bt cS.out cT.out)
 clear hHeld
 refine hK.out _ _ (aD.out _ bS.out) (fun hHeld=>?_)
 clear hK K
 try simp only [PT]
 refine ryy [7] ?_
 refine .cons rfl (fun K hK=>?_) .nil
 go_simp
 go_at_call 28
 refine (some_any p v20 aM.out.2.2.2).mono ?_
 rintro e v21 ⟨fx,fy,fd,rfl,hsm,hb⟩
 have cV:=hJ hb
 clear hb
 have cW:=hJ hsm
 clear hsm
 go_wp2_with fail
 have bT:=hJ (bt bS.out cV.out)
 clear hHeld
 refine hK.out _ _ (aD.out _ bT.out) (fun hHeld=>?_)
 clear hK K
 try simp only [PT]
 refine ryy [9] ?_
 refine .cons rfl (fun K hK=>?_) .nil
 go_simp
 go_at_call 28
 refine (some_any k v21 aM.out.2.2.1).mono ?_
 rintro e v22 ⟨gx,gy,gd,rfl,hsm,hb⟩
 have cX:=hJ hb
 clear hb
 have cY:=hJ hsm
 clear hsm
 go_wp2_with fail
 have bU:=hJ (bt bT.out cX.out)
 clear hHeld
 refine hK.out _ _ (aD.out _ bU.out) (fun hHeld=>?_)
 clear hK K
 try simp only [PT]
 refine ryy [22] ?_
 refine .cons rfl (fun K hK=>?_) .nil
 go_simp
 go_at_call 29
 refine (make_any ((2*ax) - bx) ((2*ay) - by') 1 v22 (by decide) (by have:=aA.out.1; omega) (by have:=aA.out.1; omega) (by decide)).mono ?_
 rintro e v23 ⟨hx,hy,hd,rfl,hmk,hc0,hb⟩
 have cZ:=hJ hb
 clear hb
 have dA:=hJ (sm_k aA.out hmk hc0)
 clear hmk hc0
 go_wp2_with fail
 have bV:=hJ (bt bU.out cZ.out)
 clear hHeld
 refine hK.out _ _ (aD.out _ bV.out) (fun hHeld=>?_)
 clear hK K
 try simp only [PT]
 refine ryy [35] ?_
 refine .cons rfl (fun K hK=>?_) .nil
 go_simp
 go_at_call 29
 refine (make_any ((3*bx) - ax) ((3*by') - ay) 2 v23 (by decide) (by have:=aA.out.1; omega) (by have:=aA.out.1; omega) (by decide)).mono ?_
 rintro e v24 ⟨lx,ly,ld,rfl,hmk,hc0,hb⟩
 have dB:=hJ hb
 clear hb
 have dD:=hJ (sm_k2 aA.out hmk hc0)
 clear hmk hc0
 go_wp2_with fail
 have bW:=hJ (bt bV.out dB.out)
 clear hHeld
 refine hK.out _ _ (aD.out _ bW.out) (fun hHeld=>?_)
 clear hK K
 try simp only [PT]
 refine ryy [36] ?_
 refine .cons rfl (fun K hK=>?_) .nil
 go_simp
 have bX:=hJ ((Below.refl v24.heap.size v24).alloc (Nat.le_refl _) (.cells #[.int .i64 ax,.int .i64 ay,.int .i64 1,.int .i64 bx,.int .i64 by',.int .i64 1,.int .i64 mx,.int .i64 my,.int .i64 md,.int .i64 ex,.int .i64 ey,.int .i64 ed,.int .i64 fx,.int .i64 fy,.int .i64 fd,.int .i64 gx,.int .i64 gy,.int .i64 gd,.int .i64 hx,.int .i64 hy,.int .i64 hd,.int .i64 lx,.int .i64 ly,.int .i64 ld] 47))
 have bC:=hJ (BX.lit v24 47 #[.int .i64 ax,.int .i64 ay,.int .i64 1,.int .i64 bx,.int .i64 by',.int .i64 1,.int .i64 mx,.int .i64 my,.int .i64 md,.int .i64 ex,.int .i64 ey,.int .i64 ed,.int .i64 fx,.int .i64 fy,.int .i64 fd,.int .i64 gx,.int .i64 gy,.int .i64 gd,.int .i64 hx,.int .i64 hy,.int .i64 hd,.int .i64 lx,.int .i64 ly,.int .i64 ld])
 obtain ⟨v25,hV⟩:=nmz (World.alloc v24 (.cells #[.int .i64 ax,.int .i64 ay,.int .i64 1,.int .i64 bx,.int .i64 by',.int .i64 1,.int .i64 mx,.int .i64 my,.int .i64 md,.int .i64 ex,.int .i64 ey,.int .i64 ed,.int .i64 fx,.int .i64 fy,.int .i64 fd,.int .i64 gx,.int .i64 gy,.int .i64 gd,.int .i64 hx,.int .i64 hy,.int .i64 hd,.int .i64 lx,.int .i64 ly,.int .i64 ld] 47))
 obtain ⟨aB,hg⟩:=nmz (v24.heap.size)
 rw [hV] at bX bC ⊢
 rw [hg] at bC ⊢
 clear hV hg
 have bD:=hJ (bt bW.out bX.out)
 clear hHeld
 refine hK.out _ _ (aD.out _ bD.out) (fun hHeld=>?_)
 clear hK K
 refine tq 37 ?_
 try simp only [PT]
 refine wpAnyH_done (by kernel_rfl) ?_ _
 clear hHeld
 obtain ⟨PT,hPT⟩:=nmz ([(ax,ay,1),(bx,by',1),(mx,my,md),(ex,ey,ed),(fx,fy,fd),(gx,gy,gd),(hx,hy,hd),(lx,ly,ld)])
 have dE:=hJ (show BX 47 v25 aB (p3V PT).toArray by rw [←hPT]; exact bC.out)
 have dG:=hJ (show PT.length=8 by rw [←hPT]; rfl)
 have dH:=hJ (show ∀ p ∈ PT,Sm p.1 p.2.1 p.2.2 by
  rw [←hPT]
  simp only [List.mem_cons,List.not_mem_nil,or_false,forall_eq_or_imp,forall_eq]
  exact ⟨sm_on1 aA.out.1.1 aA.out.1.2.1,sm_on1 aA.out.1.2.2.1 aA.out.1.2.2.2,aW.out.1,cU.out,cW.out,cY.out,dA.out,dD.out⟩)
 clear hPT
 go_wp2_with fail
 go_loopw [14] (fun tv wr=>∃ i:Nat,i≤8∧tv=.int .i64 (i:Int)∧Below v25.heap.size v25 wr) (fun tv _=>8 - (intOf tv).toNat)
 case atStart=>exact ⟨0,by omega,rfl,Below.refl _ _⟩
 case round =>
  obtain ⟨i27,hi,rfl,hbel⟩:=hrel
  obtain ⟨wl27,rfl⟩:∃ W:World,W=wr:=⟨_,rfl⟩
  have aK:=hJ hbel
  clear hbel
  rcases (show i27 < 8∨i27=8 by omega) with hlt | rfl
  ·have h0i:(0:Int)≤(i27:Int):=by omega
   have hli:(i27:Int) < 8:=by omega
   obtain ⟨X,Y,D,hx⟩:=get3 dG.out (show i27 < 8 by omega)
   have bE:=hJ (p3V_get hx).1
   have bF:=hJ (p3V_get hx).2.1
   have bG:=hJ (p3V_get hx).2.2
   have aI:=hJ (get3_mem dH.out hx)
   have dI:=hJ (sm_d1 aI.out)
   obtain ⟨bo,hbo⟩:=nmz (roV ax ay bx by' X Y D)
   have bY:=hJ hbo
   have dJ:=hJ ((on_math aI.out.1.1 aA.out.2).trans hbo)
   clear hx hbo
   have dK:=hJ (bt (bt (bt (bt bQ.out aV.out) aY.out) bD.out) aK.out)
   have aJ:=hJ (BX.new bN.out dK.out)
   have aL:=hJ (BX.new dE.out aK.out)
   have bH:Hid (∀ w',Below wl27.heap.size wl27 w'→(fun w':World=>w'.cell? ⟨w1.heap.size,0,none⟩=some (.int .i64 ax)∧w'.cell? ⟨w1.heap.size,1,none⟩=some (.int .i64 ay)∧w'.cell? ⟨w1.heap.size,2,none⟩=some (.int .i64 bx)∧w'.cell? ⟨w1.heap.size,3,none⟩=some (.int .i64 by')∧w'.cell? ⟨aB,i27*3,none⟩=some (.int .i64 X)∧w'.cell? ⟨aB,i27*3+1,none⟩=some (.int .i64 Y)∧w'.cell? ⟨aB,i27*3+2,none⟩=some (.int .i64 D)∧Below wl27.heap.size wl27 w') w'):=hJ (fun w' hb=>⟨(BX.new aJ.out hb).cell 0 rfl,(BX.new aJ.out hb).cell 1 rfl,(BX.new aJ.out hb).cell 2 rfl,(BX.new aJ.out hb).cell 3 rfl,(BX.new aL.out hb).cell (i27*3) bE.out,(BX.new aL.out hb).cell (i27*3+1) bF.out,(BX.new aL.out hb).cell (i27*3+2) bG.out,hb⟩)
   go_wp2_with fail
   obtain ⟨v28,hv28⟩:=nmz (World.drew wl27)
   have dL:=hJ (show Below wl27.heap.size wl27 v28 by rw [←hv28]; exact (Below.refl _ _).drew)
   refine whd bH hv28 (fun hHeld=>?_)
   clear hv28
   refine tq 0 ?_
   refine tq 1 ?_
   refine tq 2 ?_
   refine tq 3 ?_
   refine tq 4 ?_
   try simp only [PT]
   refine ryy [5] ?_
   refine .cons rfl (fun K hK=>?_) .nil
   go_simp
   go_at_call 30
   refine (own7_any X Y D v28 (sm_wf3 aI.out)).mono ?_
   rw [dI.out]
   rintro e v29 ⟨s11,A11,n11,c11,t11,B11,m11,d11,s12,A12,n12,c12,t12,B12,m12,d12,rfl,hr11,hr12,hb⟩
   have dM:=hJ hb
   have dN:=hJ hr11
   have dO:=hJ hr12
   clear hb hr11 hr12
   go_wp2_with fail
   have bZ:=hJ (bt dL.out dM.out)
   clear hHeld
   refine hK.out _ _ (bH.out _ bZ.out) (fun hHeld=>?_)
   clear hK K
   try simp only [PT]
   refine ryy [6] ?_
   refine .cons rfl (fun K hK=>?_) .nil
   go_simp
   go_at_call 20
   refine (on_any ax ay bx by' X Y D s11 A11 n11 c11 t11 B11 m11 d11 s12 A12 n12 c12 t12 B12 m12 d12 v29 (sg_vs aA.out) dN.out dO.out (sm_pz aI.out)).mono ?_
   rw [dJ.out]
   rintro e v30 ⟨rfl,hb⟩
   have dP:=hJ hb
   clear hb
   go_wp2_with fail
   have aG:=hJ (bt bZ.out dP.out)
   clear hHeld
   refine hK.out _ _ (bH.out _ aG.out) (fun hHeld=>?_)
   clear hK K
   refine tq 7 ?_
   refine tq 8 ?_
   refine tq 9 ?_
   refine tq 10 ?_
   refine tq 11 ?_
   try simp only [PT]
   refine wpAnyH_done (by kernel_rfl) ?_ _
   clear hHeld
   rcases (show bo=true∨bo=false by cases bo <;> simp) with hc | hc
   ·obtain rfl:=hc
    have aC:=hJ (BX.new aJ.out aG.out)
    have aH:=hJ (BX.new aL.out aG.out)
    have cA:Hid (∀ w',Below v30.heap.size v30 w'→(fun w':World=>w'.cell? ⟨w1.heap.size,0,none⟩=some (.int .i64 ax)∧w'.cell? ⟨w1.heap.size,1,none⟩=some (.int .i64 ay)∧w'.cell? ⟨w1.heap.size,2,none⟩=some (.int .i64 bx)∧w'.cell? ⟨w1.heap.size,3,none⟩=some (.int .i64 by')∧w'.cell? ⟨aB,i27*3,none⟩=some (.int .i64 X)∧w'.cell? ⟨aB,i27*3+1,none⟩=some (.int .i64 Y)∧w'.cell? ⟨aB,i27*3+2,none⟩=some (.int .i64 D)∧Below v30.heap.size v30 w') w'):=hJ (fun w' hb=>⟨(BX.new aC.out hb).cell 0 rfl,(BX.new aC.out hb).cell 1 rfl,(BX.new aC.out hb).cell 2 rfl,(BX.new aC.out hb).cell 3 rfl,(BX.new aH.out hb).cell (i27*3) bE.out,(BX.new aH.out hb).cell (i27*3+1) bF.out,(BX.new aH.out hb).cell (i27*3+2) bG.out,hb⟩)
    go_wp2_with fail
    obtain ⟨v31,hv31⟩:=nmz (World.drew v30)
    have dQ:=hJ (show Below v30.heap.size v30 v31 by rw [←hv31]; exact (Below.refl _ _).drew)
    refine whd cA hv31 (fun hHeld=>?_)
    clear hv31
    refine tq 0 ?_
    refine tq 1 ?_
    refine tq 2 ?_
    refine tq 3 ?_
    refine tq 4 ?_
    refine tq 5 ?_
    refine tq 6 ?_
    refine tq 7 ?_
    refine tq 8 ?_
    try simp only [PT]
    refine ryy [9] ?_
    refine .cons rfl (fun K hK=>?_) .nil
    go_simp
    go_at_call 31
    refine (ron_any ax ay bx by' X Y D v31 (sm_ob aA.out aI.out)).mono ?_
    rw [bY.out]
    rintro e v32 ⟨rfl,hb⟩
    have dR:=hJ hb
    clear hb
    go_wp2_with fail
    have cB:=hJ (bt dQ.out dR.out)
    clear hHeld
    refine hK.out _ _ (cA.out _ cB.out) (fun hHeld=>?_)
    clear hK K
    refine tq 10 ?_
    refine tq 11 ?_
    try simp only [PT]
    refine wpAnyH_done (by kernel_rfl) ?_ _
    clear hHeld
    have bJ:=hJ (bt (bt aK.out aG.out) cB.out)
    go_wp2_with fail
    all_goals
     go_roundw
     case rel=>exact ⟨i27+1,by omega,by go_num,bJ.out⟩
     case measure=>simp [intOf] <;> omega
   obtain rfl:=hc
   have aC:=hJ (BX.new aJ.out aG.out)
   have aH:=hJ (BX.new aL.out aG.out)
   have cC:Hid (∀ w',Below v30.heap.size v30 w'→(fun w':World=>w'.cell? ⟨w1.heap.size,0,none⟩=some (.int .i64 ax)∧w'.cell? ⟨w1.heap.size,1,none⟩=some (.int .i64 ay)∧w'.cell? ⟨w1.heap.size,2,none⟩=some (.int .i64 bx)∧w'.cell? ⟨w1.heap.size,3,none⟩=some (.int .i64 by')∧w'.cell? ⟨aB,i27*3,none⟩=some (.int .i64 X)∧w'.cell? ⟨aB,i27*3+1,none⟩=some (.int .i64 Y)∧w'.cell? ⟨aB,i27*3+2,none⟩=some (.int .i64 D)∧Below v30.heap.size v30 w') w'):=hJ (fun w' hb=>⟨(BX.new aC.out hb).cell 0 rfl,(BX.new aC.out hb).cell 1 rfl,(BX.new aC.out hb).cell 2 rfl,(BX.new aC.out hb).cell 3 rfl,(BX.new aH.out hb).cell (i27*3) bE.out,(BX.new aH.out hb).cell (i27*3+1) bF.out,(BX.new aH.out hb).cell (i27*3+2) bG.out,hb⟩)
   go_wp2_with fail
   obtain ⟨v33,hv33⟩:=nmz (World.drew v30)
   have dS:=hJ (show Below v30.heap.size v30 v33 by rw [←hv33]; exact (Below.refl _ _).drew)
   refine whd cC hv33 (fun hHeld=>?_)
   clear hv33
   refine tq 0 ?_
   refine tq 1 ?_
   refine tq 2 ?_
   refine tq 3 ?_
   refine tq 4 ?_
   refine tq 5 ?_
   refine tq 6 ?_
   refine tq 7 ?_
   refine tq 8 ?_
   try simp only [PT]
   refine ryy [9] ?_
   refine .cons rfl (fun K hK=>?_) .nil
   go_simp
   go_at_call 31
   refine (ron_any ax ay bx by' X Y D v33 (sm_ob aA.out aI.out)).mono ?_
   rw [bY.out]
   rintro e v34 ⟨rfl,hb⟩
   have dT:=hJ hb
   clear hb
   go_wp2_with fail
   have cD:=hJ (bt dS.out dT.out)
   clear hHeld
   refine hK.out _ _ (cC.out _ cD.out) (fun hHeld=>?_)
   clear hK K
   refine tq 10 ?_
   refine tq 11 ?_
   try simp only [PT]
   refine wpAnyH_done (by kernel_rfl) ?_ _
   clear hHeld
   have bJ:=hJ (bt (bt aK.out aG.out) cD.out)
   go_wp2_with fail
   all_goals
    go_roundw
    case rel=>exact ⟨i27+1,by omega,by go_num,bJ.out⟩
    case measure=>simp [intOf] <;> omega
  ·(try rw [show ((8:Nat):Int)=8 from rfl])
   go_wp2_with fail
   refine (lives7_any wl27).mono ?_
   rintro e w35 ⟨rfl,hb⟩
   have dU:=hJ hb
   clear hb
   have dW:=hJ (bt (bt (bt (bt (bt (bt (bt (bt (bt (bt cE.out cF.out) bL.out) bM.out) bO.out) bP.out) aV.out) aY.out) bD.out) aK.out) dU.out)
   go_wp2
   go_ret
   exact ⟨rfl,dW.out⟩
theorem crossOn_law (a0 a1 a2 a3:Int) (w:World) (w0:(Lit.int .i64 a0).wf=true) (w1:(Lit.int .i64 a1).wf=true) (w2:(Lit.int .i64 a2).wf=true) (w3:(Lit.int .i64 a3).wf=true) :
  Calls Tryz.prog 5 #[.int .i64 a0,.int .i64 a1,.int .i64 a2,.int .i64 a3] w fun e w'=>e=.returned (.bool true)∧Below w.heap.size w w':=crossOn_walk a0 a1 a2 a3 w ⟨w0,w1,w2,w3⟩
end Go.Proofs.YtagakcficjcfhaaGreat
