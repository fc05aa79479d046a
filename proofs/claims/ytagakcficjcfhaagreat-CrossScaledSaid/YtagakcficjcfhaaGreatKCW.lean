/- Contracts for the law CrossScaled. Conditions: as each statement has them. -/
import Derived.Test.YtagakcficjcfhaaGreatKAE
import Derived.Test.YtagakcficjcfhaaGreatKB2
import Derived.Test.YtagakcficjcfhaaGreatKB5
import Derived.Test.YtagakcficjcfhaaGreatKCA
import Derived.Test.YtagakcficjcfhaaGreatKCC
import Derived.Test.YtagakcficjcfhaaGreatKCV
import Derived.Test.YtagakcficjcfhaaGreatKEA
import Derived.Test.YtagakcficjcfhaaGreatKEV
import Derived.Test.YtagakcficjcfhaaGreatKFD
import Derived.Test.YtagakcficjcfhaaGreatKFG
import Derived.Test.YtagakcficjcfhaaGreatKFI
import Derived.Test.YtagakcficjcfhaaGreatKPF
import Derived.Test.YtagakcficjcfhaaGreatKQL
namespace Go.Proofs.YtagakcficjcfhaaGreat
open Go.RowKit
attribute [local go_sem ↓] Go.wp_at_zero Go.wp_at_succ
set_option linter.unusedVariables false
set_option linter.unusedSimpArgs false
theorem vd_of {x y:Int} (h:vdC x y=0):vdP (x,y)=0:=by
 unfold vdC at h
 split at h
 ·rename_i g; exact if_pos (by omega)
 ·exact absurd h (by decide)
/-- The reference's error of a segment with different ends. -/
def rvV (ax ay bx by':Int):Int:=if vdC ax ay=0∧vdC bx by'=0 then 0 else 5
theorem sp_frs {p q X D f x:Int} (h:Vl 229 p q X D) (hf:f.natAbs < B2 40) (hx:x.natAbs < B2 40):(Fr p q∧Fr (muP p q f 1) (muQ p q f 1))∧Fr (spP p q f x) (spQ p q f x):=by
 have s:=sp_vl h hf hx
 exact ⟨⟨vl_frC h (by decide),vl_frC s.2.1 (by decide)⟩,vl_frC s.2.2 (by decide)⟩
def RetSp (a b c d:Int) (w:World) (e:Ending) (w':World):Prop:=∃ (s0:Bool) (A0:Option Addr) (n0 c0:Nat) (t0:Bool) (B0:Option Addr) (m0 d0:Nat) (s1:Bool) (A1:Option Addr) (n1 c1:Nat) (t1:Bool) (B1:Option Addr) (m1 d1:Nat),e=.returned (.tuple #[(.agg #[.bool s0,.slice A0 n0 c0,.bool t0,.slice B0 m0 d0,.bool s1,.slice A1 n1 c1,.bool t1,.slice B1 m1 d1]),.bool true])∧PF w' s0 A0 n0 c0 t0 B0 m0 d0 a b∧PF w' s1 A1 n1 c1 t1 B1 m1 d1 c d∧Below w.heap.size w w'
set_option maxRecDepth 100000 in
set_option maxHeartbeats 1600000 in
theorem rscaled7_any (x y k a b:Int) (w:World) (h:(I6 (k*x)∧I6 (k*x+a))∧I6 (k*y)∧I6 (k*y+b)) :
  Calls Tryz.prog 37 #[.agg #[.int .i64 x,.int .i64 y],.int .i64 k,.agg #[.int .i64 a,.int .i64 b]] w fun e w'=>e=.returned (.agg #[.int .i64 (k*x+a),.int .i64 (k*y+b)])∧Below w.heap.size w w':=by
 have HW:=hJ h
 clear h
 obtain ⟨x1,aA⟩:=nmz (((w.alloc (.cells #[.int .i64 x,.int .i64 y] 23)).alloc (.cells #[.int .i64 a,.int .i64 b] 23)).alloc (.cells #[.int .i64 0,.int .i64 0] 23))
 have aI:=hJ (show Below w.heap.size w x1 by rw [←aA]; exact ((((Below.refl _ _).alloc (Nat.le_refl _) _).alloc (by simp only [World.size_alloc]; omega) _).alloc (by simp only [World.size_alloc]; omega) _))
 have aC:=hJ (show BX 23 x1 w.heap.size #[.int .i64 x,.int .i64 y] by rw [←aA]; exact (((BX.at rfl).alloc _).alloc _))
 have aD:=hJ (show BX 23 x1 (w.heap.size+1) #[.int .i64 a,.int .i64 b] by rw [←aA]; exact ((BX.at (by simp only [World.size_alloc])).alloc _))
 have aB:=hJ (show BX 23 x1 (w.heap.size+2) #[.int .i64 0,.int .i64 0] by rw [←aA]; exact (BX.at (by simp only [World.size_alloc])))
 have aJ:=hJ (show w.heap.size≤w.heap.size+2 by omega)
 have aK:=aC.out.cell 0 rfl
 have aL:IntKind.i64.wrap (k*x)=k*x:=i6_wrap HW.out.1.1
 have aM:=aD.out.cell 0 rfl
 have aO:IntKind.i64.wrap ((k*x)+a)=(k*x)+a:=i6_wrap HW.out.1.2
 have aR:=aC.out.cell 1 rfl
 have aS:IntKind.i64.wrap (k*y)=k*y:=i6_wrap HW.out.2.1
 have aT:=aD.out.cell 1 rfl
 have aU:IntKind.i64.wrap ((k*y)+b)=(k*y)+b:=i6_wrap HW.out.2.2
 have aV:=aB.out.frozen 0
 have aW:=aB.out.cell 0 rfl
 have aX:=aB.out.frozen 1
 have aY:=aB.out.cell 1 rfl
 obtain ⟨x6,aG⟩:=nmz (World.setCell (World.setCell x1 ⟨w.heap.size+2,0,none⟩ (.int .i64 ((k*x)+a))) ⟨w.heap.size+2,1,none⟩ (.int .i64 ((k*y)+b)))
 have aH:=hJ (show sto x1 (w.heap.size+2) 0 [.int .i64 ((k*x)+a),.int .i64 ((k*y)+b)]=x6 from aG)
 have aZ:=hJ (show BX 23 x6 (w.heap.size+2) #[.int .i64 ((k*x)+a),.int .i64 ((k*y)+b)] by rw [←aH.out]; exact BX.put aB.out _ _)
 have bA:=hJ (show Below w.heap.size w x6 by rw [←aH.out]; exact below_sto aI.out aJ.out _ _)
 go_enter Tryz.func37,Tryz.ntmps37
 go_wp2
 clear aA aK aL aM aO aR aS aT aU aV aW aX aY aG
 exact bodyPost_ret (results_cell_row rfl _ _ _ _ _ _ _ rfl aZ.out Tryz.underlying23 rfl (by kernel_rfl)) rfl ⟨rfl,bA.out⟩
set_option maxRecDepth 100000 in
set_option maxHeartbeats 1600000 in
theorem rbound_any (n:Int) (w:World) (hn:(Lit.int .i64 n).wf=true) :
  Calls Tryz.prog 36 #[.int .i64 n,.int .i64 536870912] w (fun e w'=>∃ r:Int,e=.returned (.int .i64 r)∧(-536870912≤r∧r≤536870912)∧Below w.heap.size w w'):=by
 have HN:=hJ hn
 clear hn
 obtain ⟨j,hj⟩:=nmz (aroundZ n 1073741825)
 have HJ:=hJ hj
 have HB:=hJ (show 0≤j∧j < 1073741825 by rw [←hj]; exact aroundZ_in _ (by decide))
 clear hj
 go_enter Tryz.func36,Tryz.ntmps36
 go_wp2_with fail
 refine (aroundz_any n 1073741825 w (by decide) (by decide) HN.out).mono ?_
 rw [HJ.out]
 rintro e w1 ⟨rfl,rfl⟩
 have aA:IntKind.i64.wrap (j - 536870912)=j - 536870912:=i6_wrap (show I6 (j - 536870912) by have:=HB.out; unfold I6; omega)
 go_wp2
 clear aA
 go_ret
 exact ⟨_,rfl,by have:=HB.out; omega,(Below.refl _ _)⟩
set_option maxRecDepth 100000 in
set_option maxHeartbeats 1600000 in
theorem rvalid7_any (ax ay bx by':Int) (w:World) (hne:¬ (ax=bx∧ay=by')) :
  Calls Tryz.prog 23 #[.agg #[.int .i64 ax,.int .i64 ay,.int .i64 bx,.int .i64 by']] w fun e w'=>e=.returned ((.int .i64 (rvV ax ay bx by')))∧Below w.heap.size w w':=by
 have aO:=hJ hne
 clear hne
 obtain ⟨c1,hc1⟩:=nmz (vdC ax ay)
 obtain ⟨c2,hc2⟩:=nmz (vdC bx by')
 have aA:=hJ hc1
 have aI:=hJ hc2
 clear hc1 hc2
 obtain ⟨x1,aB⟩:=nmz (w.alloc (.cells #[.int .i64 ax,.int .i64 ay,.int .i64 bx,.int .i64 by'] 25))
 have aJ:=hJ (show Below w.heap.size w x1 by rw [←aB]; exact ((Below.refl _ _).alloc (Nat.le_refl _) _))
 have aC:=hJ (show BX 25 x1 w.heap.size #[.int .i64 ax,.int .i64 ay,.int .i64 bx,.int .i64 by'] by rw [←aB]; exact (BX.at rfl))
 rcases (show (c1=0∧c2=0)∨(c1=0∧¬ c2=0)∨¬ c1=0 by omega) with ⟨rfl,rfl⟩ | ⟨rfl,hc⟩ | hc
 ·have HV:=hJ (show rvV ax ay bx by'=0 from if_pos ⟨aA.out,aI.out⟩)
  obtain ⟨aR,aS⟩:=aC.out.c2 0 1 rfl rfl
  go_enter Tryz.func23,Tryz.ntmps23
  go_wp2_with fail
  clear aB aR aS
  refine (good_any ax ay x1).mono ?_
  rw [aA.out]
  rintro e w4 ⟨rfl,hb⟩
  have aL:=hJ hb
  clear hb
  have aD:=hJ (BX.new aC.out aL.out)
  obtain ⟨aT,aU⟩:=aD.out.c2 2 3 rfl rfl
  go_wp2_with fail
  clear aT aU
  refine (good_any bx by' w4).mono ?_
  rw [aI.out]
  rintro e w7 ⟨rfl,hb⟩
  have aK:=hJ hb
  clear hb
  have hne:=aO.out
  rcases (show ¬ ax=bx∨(ax=bx∧¬ ay=by') by omega) with hc | ⟨hc,hd⟩
  ·clear hne
   have aG:=hJ (BX.new aD.out aK.out)
   obtain ⟨aV,aW⟩:=aG.out.c2 0 1 rfl rfl
   obtain ⟨aX,aY⟩:=aG.out.c2 2 3 rfl rfl
   have aH:=hJ (bt (bt aJ.out aL.out) aK.out)
   go_wp2
   clear aV aW aX aY
   go_ret
   exact ⟨by rw [HV.out] <;> rfl,aH.out⟩
  obtain rfl:=hc
  clear hne
  have aG:=hJ (BX.new aD.out aK.out)
  obtain ⟨aZ,bA⟩:=aG.out.c2 0 1 rfl rfl
  obtain ⟨bB,bC⟩:=aG.out.c2 2 3 rfl rfl
  have aH:=hJ (bt (bt aJ.out aL.out) aK.out)
  go_wp2
  clear aZ bA bB bC
  go_ret
  exact ⟨by rw [HV.out] <;> rfl,aH.out⟩
 ·have hcz:(c2 == 0)=false:=by simp [hc]
  have HV:=hJ (show rvV ax ay bx by'=5 from if_neg (fun h=>hc (aI.out.symm.trans h.2)))
  obtain ⟨bD,bE⟩:=aC.out.c2 0 1 rfl rfl
  go_enter Tryz.func23,Tryz.ntmps23
  go_wp2_with fail
  clear aB bD bE
  refine (good_any ax ay x1).mono ?_
  rw [aA.out]
  rintro e w18 ⟨rfl,hb⟩
  have aM:=hJ hb
  clear hb
  have aD:=hJ (BX.new aC.out aM.out)
  obtain ⟨bF,bG⟩:=aD.out.c2 2 3 rfl rfl
  go_wp2_with fail
  clear bF bG
  refine (good_any bx by' w18).mono ?_
  rw [aI.out]
  rintro e w21 ⟨rfl,hb⟩
  have bH:=hJ hb
  clear hb
  have aH:=hJ (bt (bt aJ.out aM.out) bH.out)
  go_wp2
  go_ret
  exact ⟨by rw [HV.out] <;> rfl,aH.out⟩
 ·have hcz:(c1 == 0)=false:=by simp [hc]
  have HV:=hJ (show rvV ax ay bx by'=5 from if_neg (fun h=>hc (aA.out.symm.trans h.1)))
  obtain ⟨bJ,bK⟩:=aC.out.c2 0 1 rfl rfl
  go_enter Tryz.func23,Tryz.ntmps23
  go_wp2_with fail
  clear aB bJ bK
  refine (good_any ax ay x1).mono ?_
  rw [aA.out]
  rintro e w24 ⟨rfl,hb⟩
  have bL:=hJ hb
  clear hb
  have bM:=hJ (bt aJ.out bL.out)
  go_wp2
  go_ret
  exact ⟨by rw [HV.out] <;> rfl,bM.out⟩
set_option maxRecDepth 100000 in
set_option maxHeartbeats 1600000 in
theorem scaled7_any (p q u v f x y:Int) (s0:Bool) (A0:Option Addr) (n0 c0:Nat) (t0:Bool) (B0:Option Addr) (m0 d0:Nat) (s1:Bool) (A1:Option Addr) (n1 c1:Nat) (t1:Bool) (B1:Option Addr) (m1 d1:Nat) (w:World) (h0:PF w s0 A0 n0 c0 t0 B0 m0 d0 p q) (h1:PF w s1 A1 n1 c1 t1 B1 m1 d1 u v) {X D Y E:Int} (v0:Vl 229 p q X D) (v1:Vl 229 u v Y E) (hf:f.natAbs < B2 40) (hx:x.natAbs < B2 40) (hy:y.natAbs < B2 40) (wf:(Lit.int .i64 f).wf=true∧(Lit.int .i64 x).wf=true∧(Lit.int .i64 y).wf=true) :
  Calls Tryz.prog 38 #[.agg #[.bool s0,.slice A0 n0 c0,.bool t0,.slice B0 m0 d0,.bool s1,.slice A1 n1 c1,.bool t1,.slice B1 m1 d1],.int .i64 f,.agg #[.int .i64 x,.int .i64 y]] w (RetSp (spP p q f x) (spQ p q f x) (spP u v f y) (spQ u v f y) w):=by
 have bO:=hJ h0
 have bP:=hJ h1
 have HA:=hJ (sp_frs v0 hf hx)
 have HB:=hJ (sp_frs v1 hf hy)
 have bB:=hJ (sp_vl v0 hf hx).1
 have bC:=hJ (sp_vl v1 hf hy).1
 have aB:=hJ wf
 clear h0 h1 v0 v1 hf hx hy wf
 obtain ⟨x1,aI⟩:=nmz (((w.alloc (.cells #[.bool s0,.slice A0 n0 c0,.bool t0,.slice B0 m0 d0,.bool s1,.slice A1 n1 c1,.bool t1,.slice B1 m1 d1] 37)).alloc (.cells #[.int .i64 x,.int .i64 y] 23)).alloc (.cells #[.bool false,.slice none 0 0,.bool false,.slice none 0 0,.bool false,.slice none 0 0,.bool false,.slice none 0 0] 37))
 have bQ:=hJ (show Below w.heap.size w x1 by rw [←aI]; exact ((((Below.refl _ _).alloc (Nat.le_refl _) _).alloc (by simp only [World.size_alloc]; omega) _).alloc (by simp only [World.size_alloc]; omega) _))
 have bR:=hJ (show BX 37 x1 w.heap.size #[.bool s0,.slice A0 n0 c0,.bool t0,.slice B0 m0 d0,.bool s1,.slice A1 n1 c1,.bool t1,.slice B1 m1 d1] by rw [←aI]; exact (((BX.at rfl).alloc _).alloc _))
 have bS:=hJ (show BX 23 x1 (w.heap.size+1) #[.int .i64 x,.int .i64 y] by rw [←aI]; exact ((BX.at (by simp only [World.size_alloc])).alloc _))
 have bT:=hJ (show BX 37 x1 (w.heap.size+2) #[.bool false,.slice none 0 0,.bool false,.slice none 0 0,.bool false,.slice none 0 0,.bool false,.slice none 0 0] by rw [←aI]; exact (BX.at (by simp only [World.size_alloc])))
 have bU:=hJ (show w.heap.size≤w.heap.size+2 by omega)
 go_enter Tryz.func38,Tryz.ntmps38
 go_wp2_with fail
 clear aI
 refine (fof_any f 1 x1 aB.out.1 (by decide)).mono ?_
 rw [(mk_one f).1,(mk_one f).2.1,show mkC 1=0 from if_neg (by decide)]
 rintro e w2 ⟨s11,A11,n11,c11,t11,B11,m11,d11,rfl,hr11,hb⟩
 have bD:=hJ hb
 have bV:=hJ hr11
 clear hb hr11
 obtain ⟨x3,aS⟩:=nmz (w2.alloc (.cells #[.bool s11,.slice A11 n11 c11,.bool t11,.slice B11 m11 d11] 35))
 have aT:=hJ (show Below w2.heap.size w2 x3 by rw [←aS]; exact ((Below.refl _ _).alloc (Nat.le_refl _) _))
 have bE:=hJ (show BX 35 x3 w2.heap.size #[.bool s11,.slice A11 n11 c11,.bool t11,.slice B11 m11 d11] by rw [←aS]; exact (BX.at rfl))
 have bF:=hJ (bt bD.out aT.out)
 have bG:=hJ (BX.new bR.out bF.out)
 obtain ⟨bW,bX,bY,bZ⟩:=bG.out.c4 0 1 2 3 rfl rfl rfl rfl
 obtain ⟨cA,cB,cC,cD⟩:=bE.out.c4 0 1 2 3 rfl rfl rfl rfl
 have bH:=hJ (bt (bt bQ.out bD.out) aT.out)
 have cE:=hJ (PF.new bO.out bH.out)
 have bJ:=hJ (PF.new bV.out aT.out)
 go_wp2_with fail
 clear aS bW bX bY bZ cA cB cC cD
 refine (fmul_any p q f 1 s0 t0 s11 t11 A0 B0 A11 B11 n0 c0 m0 d0 n11 c11 m11 d11 x3 cE.out bJ.out HA.out.1.1.1.1 (int_fr aB.out.1).1.1 HA.out.1.1.2.1 HA.out.1.1.2.2 (int_fr aB.out.1).2.1 (int_fr aB.out.1).2.2).mono ?_
 rw [bB.out.1]
 rintro e w12 ⟨s12,A12,n12,c12,t12,B12,m12,d12,rfl,hr12,hb⟩
 have aU:=hJ hb
 have cF:=hJ hr12
 clear hb hr12
 obtain ⟨x13,aV⟩:=nmz (w12.alloc (.cells #[.bool s12,.slice A12 n12 c12,.bool t12,.slice B12 m12 d12] 35))
 have aL:=hJ (show Below w12.heap.size w12 x13 by rw [←aV]; exact ((Below.refl _ _).alloc (Nat.le_refl _) _))
 have cG:=hJ (show BX 35 x13 w12.heap.size #[.bool s12,.slice A12 n12 c12,.bool t12,.slice B12 m12 d12] by rw [←aV]; exact (BX.at rfl))
 have aW:=hJ (bt aU.out aL.out)
 have cH:=hJ (BX.new bG.out aW.out)
 obtain ⟨cI,cJ,cK,cL⟩:=cH.out.c4 4 5 6 7 rfl rfl rfl rfl
 have cM:=hJ (BX.new bE.out aW.out)
 obtain ⟨cN,cO,cP,cQ⟩:=cM.out.c4 0 1 2 3 rfl rfl rfl rfl
 have bK:=hJ (bt (bt bH.out aU.out) aL.out)
 have cR:=hJ (PF.new bP.out bK.out)
 have cS:=hJ (PF.new bJ.out aW.out)
 go_wp2_with fail
 clear aV cI cJ cK cL cN cO cP cQ
 refine (fmul_any u v f 1 s1 t1 s11 t11 A1 B1 A11 B11 n1 c1 m1 d1 n11 c11 m11 d11 x13 cR.out cS.out HB.out.1.1.1.1 (int_fr aB.out.1).1.1 HB.out.1.1.2.1 HB.out.1.1.2.2 (int_fr aB.out.1).2.1 (int_fr aB.out.1).2.2).mono ?_
 rw [bC.out.1]
 rintro e w22 ⟨s13,A13,n13,c13,t13,B13,m13,d13,rfl,hr13,hb⟩
 have aM:=hJ hb
 have cT:=hJ hr13
 clear hb hr13
 obtain ⟨x23,aX⟩:=nmz (w22.alloc (.cells #[.bool s13,.slice A13 n13 c13,.bool t13,.slice B13 m13 d13] 35))
 have aJ:=hJ (show Below w22.heap.size w22 x23 by rw [←aX]; exact ((Below.refl _ _).alloc (Nat.le_refl _) _))
 have cU:=hJ (show BX 35 x23 w22.heap.size #[.bool s13,.slice A13 n13 c13,.bool t13,.slice B13 m13 d13] by rw [←aX]; exact (BX.at rfl))
 have bL:=hJ (bt (bt (bt (bt bF.out aU.out) aL.out) aM.out) aJ.out)
 have cV:=hJ (BX.new bS.out bL.out)
 obtain ⟨cW,cX⟩:=cV.out.c2 0 1 rfl rfl
 go_wp2_with fail
 clear aX cW cX
 refine (pof_any x y x23 aB.out.2.1 aB.out.2.2).mono ?_
 rintro e w26 ⟨s14,A14,n14,c14,t14,B14,m14,d14,s15,A15,n15,c15,t15,B15,m15,d15,rfl,hr14,hr15,hb⟩
 have aG:=hJ hb
 have cY:=hJ hr14
 have cZ:=hJ hr15
 clear hb hr14 hr15
 obtain ⟨x27,aY⟩:=nmz (w26.alloc (.cells #[.bool s14,.slice A14 n14 c14,.bool t14,.slice B14 m14 d14,.bool s15,.slice A15 n15 c15,.bool t15,.slice B15 m15 d15] 37))
 have aC:=hJ (show Below w26.heap.size w26 x27 by rw [←aY]; exact ((Below.refl _ _).alloc (Nat.le_refl _) _))
 have bM:=hJ (show BX 37 x27 w26.heap.size #[.bool s14,.slice A14 n14 c14,.bool t14,.slice B14 m14 d14,.bool s15,.slice A15 n15 c15,.bool t15,.slice B15 m15 d15] by rw [←aY]; exact (BX.at rfl))
 have dA:=hJ (bt (bt (bt aM.out aJ.out) aG.out) aC.out)
 have dB:=hJ (BX.new cG.out dA.out)
 obtain ⟨dD,dE,dG,dH⟩:=dB.out.c4 0 1 2 3 rfl rfl rfl rfl
 obtain ⟨dI,dJ,dK,dL⟩:=bM.out.c4 0 1 2 3 rfl rfl rfl rfl
 have dM:=hJ (bt (bt (bt (bt aL.out aM.out) aJ.out) aG.out) aC.out)
 have dN:=hJ (PF.new cF.out dM.out)
 have dO:=hJ (PF.new cY.out aC.out)
 go_wp2_with fail
 clear aY dD dE dG dH dI dJ dK dL
 refine (fadd_any (muP p q f 1) (muQ p q f 1) x 1 s12 t12 s14 t14 A12 B12 A14 B14 n12 c12 m12 d12 n14 c14 m14 d14 x27 dN.out dO.out HA.out.1.2.1.1 (int_fr aB.out.2.1).1.1 HA.out.1.2.2.1 HA.out.1.2.2.2 (int_fr aB.out.2.1).2.1 (int_fr aB.out.2.1).2.2).mono ?_
 rw [bB.out.2]
 rintro e w36 ⟨s16,A16,n16,c16,t16,B16,m16,d16,rfl,hr16,hb⟩
 have aH:=hJ hb
 have dP:=hJ hr16
 clear hb hr16
 obtain ⟨x37,aZ⟩:=nmz (w36.alloc (.cells #[.bool s16,.slice A16 n16 c16,.bool t16,.slice B16 m16 d16] 35))
 have aD:=hJ (show Below w36.heap.size w36 x37 by rw [←aZ]; exact ((Below.refl _ _).alloc (Nat.le_refl _) _))
 have dQ:=hJ (show BX 35 x37 w36.heap.size #[.bool s16,.slice A16 n16 c16,.bool t16,.slice B16 m16 d16] by rw [←aZ]; exact (BX.at rfl))
 have dR:=hJ (bt (bt (bt aG.out aC.out) aH.out) aD.out)
 have dS:=hJ (BX.new cU.out dR.out)
 obtain ⟨dT,dU,dW,dX⟩:=dS.out.c4 0 1 2 3 rfl rfl rfl rfl
 have dY:=hJ (bt aH.out aD.out)
 have dZ:=hJ (BX.new bM.out dY.out)
 obtain ⟨eA,eB,eC,eD⟩:=dZ.out.c4 4 5 6 7 rfl rfl rfl rfl
 have eE:=hJ (bt (bt (bt (bt aJ.out aG.out) aC.out) aH.out) aD.out)
 have eF:=hJ (PF.new cT.out eE.out)
 have eG:=hJ (bt (bt aC.out aH.out) aD.out)
 have eH:=hJ (PF.new cZ.out eG.out)
 go_wp2_with fail
 clear aZ dT dU dW dX eA eB eC eD
 refine (fadd_any (muP u v f 1) (muQ u v f 1) y 1 s13 t13 s15 t15 A13 B13 A15 B15 n13 c13 m13 d13 n15 c15 m15 d15 x37 eF.out eH.out HB.out.1.2.1.1 (int_fr aB.out.2.2).1.1 HB.out.1.2.2.1 HB.out.1.2.2.2 (int_fr aB.out.2.2).2.1 (int_fr aB.out.2.2).2.2).mono ?_
 rw [bC.out.2]
 rintro e w46 ⟨s17,A17,n17,c17,t17,B17,m17,d17,rfl,hr17,hb⟩
 have aO:=hJ hb
 have eI:=hJ hr17
 clear hb hr17
 obtain ⟨x47,bA⟩:=nmz (w46.alloc (.cells #[.bool s17,.slice A17 n17 c17,.bool t17,.slice B17 m17 d17] 35))
 have aK:=hJ (show Below w46.heap.size w46 x47 by rw [←bA]; exact ((Below.refl _ _).alloc (Nat.le_refl _) _))
 have eJ:=hJ (show BX 35 x47 w46.heap.size #[.bool s17,.slice A17 n17 c17,.bool t17,.slice B17 m17 d17] by rw [←bA]; exact (BX.at rfl))
 have eK:=hJ (bt aO.out aK.out)
 have eL:=hJ (BX.new dQ.out eK.out)
 obtain ⟨eM,eN,eO,eP⟩:=eL.out.c4 0 1 2 3 rfl rfl rfl rfl
 obtain ⟨eQ,eR,eS,eT⟩:=eJ.out.c4 0 1 2 3 rfl rfl rfl rfl
 have eU:=hJ (bt (bt (bt (bt (bt (bt bL.out aG.out) aC.out) aH.out) aD.out) aO.out) aK.out)
 have aA:=hJ (BX.new bT.out eU.out)
 have eV:=aA.out.frozen 0
 have eW:=aA.out.cell 0 rfl
 have eX:=aA.out.frozen 1
 have eY:=aA.out.cell 1 rfl
 have eZ:=aA.out.frozen 2
 have fA:=aA.out.cell 2 rfl
 have fB:=aA.out.frozen 3
 have fC:=aA.out.cell 3 rfl
 have fD:=aA.out.frozen 4
 have fE:=aA.out.cell 4 rfl
 have fF:=aA.out.frozen 5
 have fG:=aA.out.cell 5 rfl
 have fH:=aA.out.frozen 6
 have fI:=aA.out.cell 6 rfl
 have fJ:=aA.out.frozen 7
 have fK:=aA.out.cell 7 rfl
 obtain ⟨x56,bN⟩:=nmz (World.setCell (World.setCell (World.setCell (World.setCell (World.setCell (World.setCell (World.setCell (World.setCell x47 ⟨w.heap.size+2,0,none⟩ (.bool s16)) ⟨w.heap.size+2,1,none⟩ (.slice A16 n16 c16)) ⟨w.heap.size+2,2,none⟩ (.bool t16)) ⟨w.heap.size+2,3,none⟩ (.slice B16 m16 d16)) ⟨w.heap.size+2,4,none⟩ (.bool s17)) ⟨w.heap.size+2,5,none⟩ (.slice A17 n17 c17)) ⟨w.heap.size+2,6,none⟩ (.bool t17)) ⟨w.heap.size+2,7,none⟩ (.slice B17 m17 d17))
 have aR:=hJ (show sto x47 (w.heap.size+2) 0 [.bool s16,.slice A16 n16 c16,.bool t16,.slice B16 m16 d16,.bool s17,.slice A17 n17 c17,.bool t17,.slice B17 m17 d17]=x56 from bN)
 have fL:=hJ (show BX 37 x56 (w.heap.size+2) #[.bool s16,.slice A16 n16 c16,.bool t16,.slice B16 m16 d16,.bool s17,.slice A17 n17 c17,.bool t17,.slice B17 m17 d17] by rw [←aR.out]; exact BX.put aA.out _ _)
 have fM:=hJ (show Below w.heap.size w x56 by rw [←aR.out]; exact below_sto (bt (bt (bt (bt (bt (bt (bt (bt bK.out aM.out) aJ.out) aG.out) aC.out) aH.out) aD.out) aO.out) aK.out) bU.out _ _)
 have fN:=hJ (bt (bt aD.out aO.out) aK.out)
 have fO:=hJ (PF.new dP.out fN.out)
 have fP:=hJ (show PF x56 s16 A16 n16 c16 t16 B16 m16 d16 (spP p q f x) (spQ p q f x) by rw [←aR.out]; exact PF.sto fO.out aA.out rfl _ _)
 have fQ:=hJ (PF.new eI.out aK.out)
 have fR:=hJ (show PF x56 s17 A17 n17 c17 t17 B17 m17 d17 (spP u v f y) (spQ u v f y) by rw [←aR.out]; exact PF.sto fQ.out aA.out rfl _ _)
 go_wp2
 clear bA eM eN eO eP eQ eR eS eT eV eW eX eY eZ fA fB fC fD fE fF fG fH fI fJ fK bN
 exact bodyPost_ret (results_cell1 rfl _ _ _ _ _ _ _ rfl fL.out Tryz.underlying37 rfl TP_size) rfl ⟨s16,A16,n16,c16,t16,B16,m16,d16,s17,A17,n17,c17,t17,B17,m17,d17,rfl,fP.out,fR.out,fM.out⟩
end Go.Proofs.YtagakcficjcfhaaGreat
