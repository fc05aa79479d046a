/- The reference's common. Conditions: as each statement has them. -/
import Derived.Test.YtdgicnhadecldaaGreatKB2
import Derived.Test.YtdgicnhadecldaaGreatKB5
import Derived.Test.YtdgicnhadecldaaGreatKCP
import Derived.Test.YtdgicnhadecldaaGreatKCY
import Derived.Test.YtdgicnhadecldaaGreatKDC
import Derived.Test.YtdgicnhadecldaaGreatKDE
import Derived.Test.YtdgicnhadecldaaGreatKDF
import Derived.Test.YtdgicnhadecldaaGreatKDH
import Derived.Test.YtdgicnhadecldaaGreatKFD
import Derived.Test.YtdgicnhadecldaaGreatKYA
namespace Go.Proofs.YtdgicnhadecldaaGreat
open Go.RowKit
attribute [local go_sem ↓] Go.wp_at_zero Go.wp_at_succ
set_option linter.unusedVariables false
set_option linter.unusedSimpArgs false
theorem put_any (L:List Tr) (X Y D:Int) (v:Value) (B:Nat) (w:World) (h:RowT B w v L) (hB:B≤w.heap.size) (hn:L.length≤2) (hr:∀ q ∈ L,Rb q.1 q.2.1 q.2.2) (hp:Rb X Y D) :
  Calls Tryz.prog 62 #[v,.agg #[.int .i64 X,.int .i64 Y,.int .i64 D]] w (fun e w'=>∃ v',e=.returned v'∧RowT B w' v' (put7 L (X,Y,D))∧Below w.heap.size w w'):=by
 rcases h with ⟨h1,⟨rfl,h0⟩ | ⟨g,cap,cur,rfl,hbg,hg,hnc,hcm,hcs,htk⟩⟩
 ·have e:=List.eq_nil_of_length_eq_zero h0
  subst e
  refine (put0_any X Y D w).mono ?_
  rintro e w' ⟨v',rfl,k1,k2⟩
  exact ⟨v',rfl,own7_mono k1 hB,k2⟩
 ·exact putr_any L X Y D g L.length cap B cur w hg htk rfl (by omega) hnc hr hp ⟨h1,.inr ⟨g,cap,cur,rfl,hbg,hg,hnc,hcm,hcs,htk⟩⟩ hB
/-- The common ends so far. -/
def reK (ax ay bx by' cx cy dx dy:Int):Nat→List Tr
 | 0=>[]
 | 1=>com7 ax ay bx by' cx cy dx dy [] (ax,ay,1)
 | 2=>com7 ax ay bx by' cx cy dx dy (com7 ax ay bx by' cx cy dx dy [] (ax,ay,1)) (bx,by',1)
 | 3=>com7 ax ay bx by' cx cy dx dy (com7 ax ay bx by' cx cy dx dy (com7 ax ay bx by' cx cy dx dy [] (ax,ay,1)) (bx,by',1)) (cx,cy,1)
 | _=>re4 ax ay bx by' cx cy dx dy
theorem reK_gd (ax ay bx by' cx cy dx dy:Int):∀ k,k≤4→Gd ax ay bx by' cx cy dx dy (reK ax ay bx by' cx cy dx dy k)
 | 0,_=>Gd.nil ax ay bx by' cx cy dx dy
 | 1,_=>(Gd.nil ax ay bx by' cx cy dx dy).com (.inl (.inl rfl))
 | 2,_=>((Gd.nil ax ay bx by' cx cy dx dy).com (.inl (.inl rfl))).com (.inl (.inr rfl))
 | 3,_=>(((Gd.nil ax ay bx by' cx cy dx dy).com (.inl (.inl rfl))).com (.inl (.inr rfl))).com (.inr (.inl rfl))
 | 4,_=>((((Gd.nil ax ay bx by' cx cy dx dy).com (.inl (.inl rfl))).com (.inl (.inr rfl))).com (.inr (.inl rfl))).com (.inr (.inr rfl))
 | n+5,h=>absurd h (by omega)
theorem gd_rb {ax ay bx by' cx cy dx dy:Int} (hs:Sp ax ay bx by') (ht:Sp cx cy dx dy) {L:List Tr} (h:Gd ax ay bx by' cx cy dx dy L):∀ q ∈ L,Rb q.1 q.2.1 q.2.2:=by
 intro q hq
 have a:=hs.1
 have b:=ht.1
 rcases (h.2 q hq).2 with (rfl | rfl) | (rfl | rfl) <;> (unfold Rb; simp only; omega)
theorem sp_ob {ax ay bx by' X Y D:Int} (hs:Sp ax ay bx by') (h:Rb X Y D):Ob ax ay bx by' X Y D:=by
 have a:=hs.1
 obtain ⟨h1,h2,h3⟩:=h
 unfold Ob
 omega
theorem end_rb {x y:Int} (hx : -100≤x∧x≤100) (hy : -100≤y∧y≤100):Rb x y 1:=⟨by omega,by omega,by omega⟩
set_option maxRecDepth 100000 in
set_option maxHeartbeats 12800000 in
theorem rcommon7_any (ax ay bx by' cx cy dx dy X Y D:Int) (L:List Tr) (vl:Value) (B:Nat) (w:World) (hr:RowT B w vl L) (hB:B≤w.heap.size) (hl:L.length≤2) (hrb:∀ q ∈ L,Rb q.1 q.2.1 q.2.2) (hp:Rb X Y D) (hs:Sp ax ay bx by') (ht:Sp cx cy dx dy) :
  Calls Tryz.prog 43 #[vl,.agg #[.int .i64 ax,.int .i64 ay,.int .i64 bx,.int .i64 by'],.agg #[.int .i64 cx,.int .i64 cy,.int .i64 dx,.int .i64 dy],.agg #[.int .i64 X,.int .i64 Y,.int .i64 D]] w (fun e w'=>∃ v',e=.returned v'∧RowT B w' v' (com7 ax ay bx by' cx cy dx dy L (X,Y,D))∧Below w.heap.size w w'):=by
 have HR:=hJ hr
 have aZ:=hJ hB
 have bA:=hJ hl
 have bB:=hJ hrb
 have aD:=hJ hp
 have aM:=hJ hs
 have aO:=hJ ht
 obtain ⟨b1,hb1⟩:=nmz (roV ax ay bx by' X Y D)
 obtain ⟨b2,hb2⟩:=nmz (roV cx cy dx dy X Y D)
 have aH:=hJ hb1
 have aI:=hJ hb2
 clear hr hB hl hrb hp hs ht hb1 hb2
 obtain ⟨x1,aG⟩:=nmz (((w.alloc (.cells #[.int .i64 ax,.int .i64 ay,.int .i64 bx,.int .i64 by'] 25)).alloc (.cells #[.int .i64 cx,.int .i64 cy,.int .i64 dx,.int .i64 dy] 25)).alloc (.cells #[.int .i64 X,.int .i64 Y,.int .i64 D] 47))
 have aR:=hJ (show Below w.heap.size w x1 by rw [←aG]; exact ((((Below.refl _ _).alloc (Nat.le_refl _) _).alloc (by simp only [World.size_alloc]; omega) _).alloc (by simp only [World.size_alloc]; omega) _))
 have aS:=hJ (show BX 25 x1 w.heap.size #[.int .i64 ax,.int .i64 ay,.int .i64 bx,.int .i64 by'] by rw [←aG]; exact (((BX.at rfl).alloc _).alloc _))
 have aT:=hJ (show BX 25 x1 (w.heap.size+1) #[.int .i64 cx,.int .i64 cy,.int .i64 dx,.int .i64 dy] by rw [←aG]; exact ((BX.at (by simp only [World.size_alloc])).alloc _))
 have aA:=hJ (show BX 47 x1 (w.heap.size+2) #[.int .i64 X,.int .i64 Y,.int .i64 D] by rw [←aG]; exact (BX.at (by simp only [World.size_alloc])))
 rcases (show (b1=true∧b2=true)∨(b1=true∧b2=false)∨b1=false by cases b1 <;> cases b2 <;> simp) with ⟨rfl,rfl⟩ | ⟨rfl,rfl⟩ | rfl
 ·have aJ:=hJ (show com7 ax ay bx by' cx cy dx dy L (X,Y,D)=put7 L (X,Y,D) from if_pos (by show (roV ax ay bx by' X Y D && roV cx cy dx dy X Y D)=true; rw [aH.out,aI.out]; rfl))
  obtain ⟨bC,bD,bE,bF⟩:=aS.out.c4 0 1 2 3 rfl rfl rfl rfl
  have bG:=aA.out.cell 0 rfl
  have bH:=aA.out.cell 1 rfl
  have bJ:=aA.out.cell 2 rfl
  go_enter Tryz.func43,Tryz.ntmps43
  go_wp2_with fail
  clear aG bC bD bE bF bG bH bJ
  refine (ron_any ax ay bx by' X Y D x1 (sp_ob aM.out aD.out)).mono ?_
  rw [aH.out]
  rintro e w9 ⟨rfl,hb⟩
  have aU:=hJ hb
  clear hb
  have aK:=hJ (BX.new aT.out aU.out)
  obtain ⟨bK,bL,bM,bN⟩:=aK.out.c4 0 1 2 3 rfl rfl rfl rfl
  have aB:=hJ (BX.new aA.out aU.out)
  have bO:=aB.out.cell 0 rfl
  have bP:=aB.out.cell 1 rfl
  have bQ:=aB.out.cell 2 rfl
  go_wp2_with fail
  clear bK bL bM bN bO bP bQ
  refine (ron_any cx cy dx dy X Y D w9 (sp_ob aO.out aD.out)).mono ?_
  rw [aI.out]
  rintro e w17 ⟨rfl,hb⟩
  have aY:=hJ hb
  clear hb
  have aV:=hJ (BX.new aB.out aY.out)
  have bR:=aV.out.cell 0 rfl
  have bS:=aV.out.cell 1 rfl
  have bT:=aV.out.cell 2 rfl
  have aC:=hJ (bt (bt aR.out aU.out) aY.out)
  have aL:=hJ (own7_new HR.out aC.out)
  have bU:=hJ (Nat.le_trans aZ.out (aC.out).size)
  go_wp2_with fail
  clear bR bS bT
  refine (put_any L X Y D vl B w17 aL.out bU.out bA.out bB.out aD.out).mono ?_
  rintro e w21 ⟨vn,rfl,hrn,hb⟩
  have bV:=hJ hb
  have bW:=hJ hrn
  clear hb hrn
  have bX:=hJ (bt aC.out bV.out)
  go_wp2
  go_ret
  exact ⟨_,rfl,by rw [aJ.out]; exact bW.out,bX.out⟩
 ·have aJ:=hJ (show com7 ax ay bx by' cx cy dx dy L (X,Y,D)=L from if_neg (by show ¬ (roV ax ay bx by' X Y D && roV cx cy dx dy X Y D)=true; rw [aH.out,aI.out]; simp))
  obtain ⟨bY,bZ,cA,cB⟩:=aS.out.c4 0 1 2 3 rfl rfl rfl rfl
  have cC:=aA.out.cell 0 rfl
  have cD:=aA.out.cell 1 rfl
  have cE:=aA.out.cell 2 rfl
  go_enter Tryz.func43,Tryz.ntmps43
  go_wp2_with fail
  clear aG bY bZ cA cB cC cD cE
  refine (ron_any ax ay bx by' X Y D x1 (sp_ob aM.out aD.out)).mono ?_
  rw [aH.out]
  rintro e w29 ⟨rfl,hb⟩
  have aW:=hJ hb
  clear hb
  have aK:=hJ (BX.new aT.out aW.out)
  obtain ⟨cF,cG,cH,cI⟩:=aK.out.c4 0 1 2 3 rfl rfl rfl rfl
  have aB:=hJ (BX.new aA.out aW.out)
  have cJ:=aB.out.cell 0 rfl
  have cK:=aB.out.cell 1 rfl
  have cL:=aB.out.cell 2 rfl
  go_wp2_with fail
  clear cF cG cH cI cJ cK cL
  refine (ron_any cx cy dx dy X Y D w29 (sp_ob aO.out aD.out)).mono ?_
  rw [aI.out]
  rintro e w37 ⟨rfl,hb⟩
  have cM:=hJ hb
  clear hb
  have aC:=hJ (bt (bt aR.out aW.out) cM.out)
  have aL:=hJ (own7_new HR.out aC.out)
  go_wp2
  go_ret
  exact ⟨_,rfl,by rw [aJ.out]; exact aL.out,aC.out⟩
 ·have aJ:=hJ (show com7 ax ay bx by' cx cy dx dy L (X,Y,D)=L from if_neg (by show ¬ (roV ax ay bx by' X Y D && roV cx cy dx dy X Y D)=true; rw [aH.out,aI.out]; simp))
  obtain ⟨cN,cO,cP,cQ⟩:=aS.out.c4 0 1 2 3 rfl rfl rfl rfl
  have cR:=aA.out.cell 0 rfl
  have cS:=aA.out.cell 1 rfl
  have cT:=aA.out.cell 2 rfl
  go_enter Tryz.func43,Tryz.ntmps43
  go_wp2_with fail
  clear aG cN cO cP cQ cR cS cT
  refine (ron_any ax ay bx by' X Y D x1 (sp_ob aM.out aD.out)).mono ?_
  rw [aH.out]
  rintro e w45 ⟨rfl,hb⟩
  have aX:=hJ hb
  clear hb
  have aK:=hJ (BX.new aT.out aX.out)
  obtain ⟨cU,cV,cW,cX⟩:=aK.out.c4 0 1 2 3 rfl rfl rfl rfl
  have aB:=hJ (BX.new aA.out aX.out)
  have cY:=aB.out.cell 0 rfl
  have cZ:=aB.out.cell 1 rfl
  have dA:=aB.out.cell 2 rfl
  go_wp2_with fail
  clear cU cV cW cX cY cZ dA
  refine (ron_any cx cy dx dy X Y D w45 (sp_ob aO.out aD.out)).mono ?_
  rw [aI.out]
  rintro e w53 ⟨rfl,hb⟩
  have dB:=hJ hb
  clear hb
  have aC:=hJ (bt (bt aR.out aX.out) dB.out)
  have aL:=hJ (own7_new HR.out aC.out)
  go_wp2
  go_ret
  exact ⟨_,rfl,by rw [aJ.out]; exact aL.out,aC.out⟩
end Go.Proofs.YtdgicnhadecldaaGreat
