/- The walk of the law CrossScaled. -/
import Derived.Test.YtagakcficjcfhaaGreatKB2
import Derived.Test.YtagakcficjcfhaaGreatKB5
import Derived.Test.YtagakcficjcfhaaGreatKCF
import Derived.Test.YtagakcficjcfhaaGreatKCI
import Derived.Test.YtagakcficjcfhaaGreatKCM
import Derived.Test.YtagakcficjcfhaaGreatKCP
import Derived.Test.YtagakcficjcfhaaGreatKCT
import Derived.Test.YtagakcficjcfhaaGreatKCV
import Derived.Test.YtagakcficjcfhaaGreatKCW
import Derived.Test.YtagakcficjcfhaaGreatKEA
import Derived.Test.YtagakcficjcfhaaGreatKFD
import Derived.Test.YtagakcficjcfhaaGreatKPF
import Derived.Test.YtagakcficjcfhaaGreatKQL
import Derived.Test.YtagakcficjcfhaaGreatKRS
namespace Go.Proofs.YtagakcficjcfhaaGreat
open Go.RowKit
attribute [local go_sem ↓] Go.wp_at_zero Go.wp_at_succ
set_option linter.unusedVariables false
set_option linter.unusedSimpArgs false
theorem sc_i6 {f a x:Int} (hf:1≤f∧f≤4194304) (ha : -100≤a∧a≤100) (hx : -1073741824≤x∧x≤1073741824):I6 (f*a)∧I6 (f*a+x):=by
 have h:=mul_in7 (A:=4194304) (B:=100) (a:=f) (b:=a) (by omega) ha
 unfold I6
 omega
theorem b2_40 {x:Int} (h : -1073741824≤x∧x≤1073741824):x.natAbs < B2 40:=Nat.lt_of_le_of_lt (show x.natAbs≤2147483648 by omega) (by unfold B2; decide)
theorem rv_zero {a b c d:Int} (h:rvV a b c d=0):vdP (a,b)=0∧vdP (c,d)=0:=by
 unfold rvV at h
 split at h
 ·rename_i g; exact ⟨vd_of g.1,vd_of g.2⟩
 ·exact absurd h (by decide)
theorem sc_ne {f x y a b c d:Int} (hf:0 < f) (h:¬ (a=c∧b=d)):¬ (f*a+x=f*c+x∧f*b+y=f*d+y):=fun e=>h ⟨by
 have e1:f*a=f*c:=by omega
 exact Int.eq_of_mul_eq_mul_left (by omega) e1,by
 have e1:f*b=f*d:=by omega
 exact Int.eq_of_mul_eq_mul_left (by omega) e1⟩
theorem pc_sp {f x y p q u v p' q' u' v':Int} (h:(p',q',u',v')=spT f x y (p,q,u,v)):pcV (spP p q f x) (spQ p q f x) (spP u v f y) (spQ u v f y) p' q' u' v'=0:=by
 unfold spT at h
 simp only [Prod.mk.injEq] at h
 rw [h.1,h.2.1,h.2.2.1,h.2.2.2]
 exact pc_self _ _ _ _
noncomputable def scaB:Code:=(Tryz.f8.body).getD .skip
set_option maxRecDepth 100000 in
set_option maxHeartbeats 12800000 in
theorem sca_t {z0 z1 z2 z3 z4 z5 z6 z7 z8 z9 z10 z11 z12 z17 z18 z19 z20 z21 z22 z23 z24 z25 z26 z27 z28 z29 z30 z31 z32 z33 z34 z35 z36 z37 z38 z39 z40 z41 z42 z43 z44 z45 z46 z47 z48 z49 z50 z51 z52 z53 z54 z55 z56 z57 z58 z59 z60 z61 z62 z63 z64 z65 z66 z67 z68 z69 z70 z71 z72 z73 z74 z75 z76 z77 z78 z79 z80 z81 z82 z83 z84 z85 z86 z87 z88 z89 z90 z91 z92 z93 z94 z95 z96 z97 z98 z99 z100 z101 z102 z103 z104 z105 z106 z107 z108 z109 z110 z111 z112 z113 z114 z115 z116 z117 z118 z119 z120 z121 z122 z123 z124 z125 z126 z127 z128 z129 z130 z131 z132 z133 z134 z135 z136 z137 z138 z139 z140 z141 z142 z143 z144 z145 z146 z147 z148 z149 z150 z151 z152 z153 z154 z155 z156 z157 z158:Value} (ax ay bx by' cx cy dx dy f x y:Int) (g13 g14 g16:Nat) (w0 w:World) (aJ:Hid (Sp ax ay bx by')) (aK:Hid (Sp cx cy dx dy)) (aG:Hid (1≤f∧f≤4194304)) (aH:Hid ((-1073741824≤x∧x≤1073741824) ∧ -1073741824≤y∧y≤1073741824)) (dT:Hid ((Lit.int .i64 f).wf=true∧(Lit.int .i64 x).wf=true∧(Lit.int .i64 y).wf=true)) (bT:Hid (BX 25 w g13 #[.int .i64 ax,.int .i64 ay,.int .i64 bx,.int .i64 by'])) (mV:Hid (w0.heap.size≤g13)) (mW:Hid (g13 < w.heap.size)) (fU:Hid (BX 25 w g14 #[.int .i64 cx,.int .i64 cy,.int .i64 dx,.int .i64 dy])) (mX:Hid (w0.heap.size≤g14)) (mY:Hid (g14 < w.heap.size)) (cP:Hid (BX 23 w g16 #[.int .i64 x,.int .i64 y])) (mZ:Hid (w0.heap.size≤g16)) (nA:Hid (g16 < w.heap.size)) (bD:Hid (Below w0.heap.size w0 w)) (hne:g13≠g14∧g13≠g16∧g14≠g16)
  (K:Act→World→Prop) (hK:∀ a w,Code.wp Tryz.prog (sqP 7 scaB) (bodyPost Tryz.prog Tryz.f8 (fun e w'=>e=.returned (.bool true)∧Below w0.heap.size w0 w')) a w→K a w) :
  Code.wp Tryz.prog (fsP (sqP 6 scaB)) (Exit.then K (bodyPost Tryz.prog Tryz.f8 (fun e w'=>e=.returned (.bool true)∧Below w0.heap.size w0 w'))) ⟨(z0 :: z1 :: z2 :: z3 :: z4 :: z5 :: z6 :: z7 :: z8 :: z9 :: z10 :: z11 :: z12 :: (.pointer (some ⟨g13,0,none⟩):Value) :: (.pointer (some ⟨g14,0,none⟩):Value) :: (.int .i64 f:Value) :: (.pointer (some ⟨g16,0,none⟩):Value) :: z17 :: z18 :: z19 :: z20 :: z21 :: z22 :: z23 :: z24 :: z25 :: z26 :: z27 :: z28 :: z29 :: z30 :: z31 :: z32 :: z33 :: z34 :: z35 :: z36 :: z37 :: z38 :: z39 :: z40 :: z41 :: z42 :: z43 :: z44 :: z45 :: z46 :: z47 :: z48 :: z49 :: z50 :: z51 :: z52 :: z53 :: z54 :: z55 :: z56 :: z57 :: z58 :: z59 :: z60 :: z61 :: z62 :: z63 :: z64 :: z65 :: z66 :: z67 :: z68 :: z69 :: z70 :: z71 :: z72 :: z73 :: z74 :: z75 :: z76 :: z77 :: z78 :: z79 :: z80 :: z81 :: z82 :: z83 :: z84 :: z85 :: z86 :: z87 :: z88 :: z89 :: z90 :: z91 :: z92 :: z93 :: z94 :: z95 :: z96 :: z97 :: z98 :: z99 :: z100 :: z101 :: z102 :: z103 :: z104 :: z105 :: z106 :: z107 :: z108 :: z109 :: z110 :: z111 :: z112 :: z113 :: z114 :: z115 :: z116 :: z117 :: z118 :: z119 :: z120 :: z121 :: z122 :: z123 :: z124 :: z125 :: z126 :: z127 :: z128 :: z129 :: z130 :: z131 :: z132 :: z133 :: z134 :: z135 :: z136 :: z137 :: z138 :: z139 :: z140 :: z141 :: z142 :: z143 :: z144 :: z145 :: z146 :: z147 :: z148 :: z149 :: z150 :: z151 :: z152 :: z153 :: z154 :: z155 :: z156 :: z157 :: z158 :: []).toArray,[]⟩ w:=by
 conv=>arg 2; whnf
 conv at hK=>intro a w; arg 1; arg 2; whnf
 have aL:Hid (∀ w',Below w.heap.size w w'→(fun w':World=>w'.cell? ⟨g13,0,none⟩=some (.int .i64 ax)∧w'.cell? ⟨g13,1,none⟩=some (.int .i64 ay)∧w'.cell? ⟨g16,0,none⟩=some (.int .i64 x)∧w'.cell? ⟨g16,1,none⟩=some (.int .i64 y)∧w'.cell? ⟨g13,2,none⟩=some (.int .i64 bx)∧w'.cell? ⟨g13,3,none⟩=some (.int .i64 by')∧Below w.heap.size w w') w'):=hJ (fun w' hb=>⟨(BX.new bT.out hb).cell 0 rfl,(BX.new bT.out hb).cell 1 rfl,(BX.new cP.out hb).cell 0 rfl,(BX.new cP.out hb).cell 1 rfl,(BX.new bT.out hb).cell 2 rfl,(BX.new bT.out hb).cell 3 rfl,hb⟩)
 go_wp2_with fail
 obtain ⟨v1,hv1⟩:=nmz (World.drew w)
 have cQ:=hJ (show Below w.heap.size w v1 by rw [←hv1]; exact (Below.refl _ _).drew)
 refine whd aL hv1 (fun hHeld=>?_)
 clear hv1
 refine tq 0 ?_
 refine tq 1 ?_
 refine tq 2 ?_
 refine tq 3 ?_
 refine tq 5 ?_
 refine tq 6 ?_
 refine tq 7 ?_
 refine tq 8 ?_
 try simp only [PT]
 refine wpAnyH_name (fun F hF a0 ha0 L0 hL0=>?_)
 have cB:∀ (aC:Nat) (v:World),Hid (Below w.heap.size w v)→Hid (BX 25 v aC #[.int .i64 0,.int .i64 0,.int .i64 0,.int .i64 0])→Hid (w.heap.size≤aC)→F 1 (Array.setIfInBounds (Array.setIfInBounds (Array.setIfInBounds (Array.setIfInBounds L0 4 true) 9 true) 11 true) 10 true) (Act.put (Act.put (Act.put (Act.put a0 (some 60) (.agg #[.int .i64 (f*ax+x),.int .i64 (f*ay+y)])) (some 65) (.agg #[.int .i64 (f*bx+x),.int .i64 (f*by'+y)])) (some 17) (.pointer (some ⟨aC,0,none⟩))) (some 66) (.agg #[.int .i64 (f*ax+x),.int .i64 (f*ay+y),.int .i64 (f*bx+x),.int .i64 (f*by'+y)])) v:=by
  intro aC v aB aM bU
  subst hF ha0 hL0
  simp only [PT] at  ⊢
  have hHeld:=aL.out _ aB.out
  refine ryy [12] ?_
  refine .cons rfl (fun K hK=>?_) .nil
  have z2_0:=aM.out.cell 0 rfl
  have y2_0:=aM.out.frozen 0
  have z2_1:=aM.out.cell 1 rfl
  have y2_1:=aM.out.frozen 1
  have z2_2:=aM.out.cell 2 rfl
  have y2_2:=aM.out.frozen 2
  have z2_3:=aM.out.cell 3 rfl
  have y2_3:=aM.out.frozen 3
  have z2:=aM.out.lt
  go_simp
  obtain ⟨v2,hV⟩:=nmz (World.setCell (World.setCell (World.setCell (World.setCell v ⟨aC,0,none⟩ (.int .i64 (f*ax+x))) ⟨aC,1,none⟩ (.int .i64 (f*ay+y))) ⟨aC,2,none⟩ (.int .i64 (f*bx+x))) ⟨aC,3,none⟩ (.int .i64 (f*by'+y)))
  rw [hV]
  have dU:=hJ (show sto v aC 0 [.int .i64 (f*ax+x),.int .i64 (f*ay+y),.int .i64 (f*bx+x),.int .i64 (f*by'+y)]=v2 from hV)
  clear hV z2 z2_0 y2_0 z2_1 y2_1 z2_2 y2_2 z2_3 y2_3
  have aU:=hJ (show Below w.heap.size w v2 by rw [←dU.out]; exact below_sto aB.out bU.out _ _)
  have cR:=hJ (show BX 25 v2 aC #[.int .i64 (f*ax+x),.int .i64 (f*ay+y),.int .i64 (f*bx+x),.int .i64 (f*by'+y)] by rw [←dU.out]; exact BX.put aM.out _ _)
  clear hHeld
  refine hK.out _ _ (aL.out _ aU.out) (fun hHeld=>?_)
  clear hK K
  try simp only [PT]
  refine wpAnyH_done (by kernel_rfl) ?_ _
  clear hHeld
  have bV:=hJ (BX.new fU.out aU.out)
  have cS:=hJ (BX.new cP.out aU.out)
  have aO:Hid (∀ w',Below v2.heap.size v2 w'→(fun w':World=>w'.cell? ⟨g14,0,none⟩=some (.int .i64 cx)∧w'.cell? ⟨g14,1,none⟩=some (.int .i64 cy)∧w'.cell? ⟨g16,0,none⟩=some (.int .i64 x)∧w'.cell? ⟨g16,1,none⟩=some (.int .i64 y)∧w'.cell? ⟨g14,2,none⟩=some (.int .i64 dx)∧w'.cell? ⟨g14,3,none⟩=some (.int .i64 dy)∧Below v2.heap.size v2 w') w'):=hJ (fun w' hb=>⟨(BX.new bV.out hb).cell 0 rfl,(BX.new bV.out hb).cell 1 rfl,(BX.new cS.out hb).cell 0 rfl,(BX.new cS.out hb).cell 1 rfl,(BX.new bV.out hb).cell 2 rfl,(BX.new bV.out hb).cell 3 rfl,hb⟩)
  go_wp2_with fail
  obtain ⟨v4,hv4⟩:=nmz (World.drew v2)
  have cT:=hJ (show Below v2.heap.size v2 v4 by rw [←hv4]; exact (Below.refl _ _).drew)
  refine whd aO hv4 (fun hHeld=>?_)
  clear hv4
  refine tq 0 ?_
  refine tq 1 ?_
  refine tq 2 ?_
  refine tq 3 ?_
  refine tq 5 ?_
  refine tq 6 ?_
  refine tq 7 ?_
  refine tq 8 ?_
  try simp only [PT]
  refine wpAnyH_name (fun F hF a0 ha0 L0 hL0=>?_)
  have cC:∀ (aD:Nat) (v:World),Hid (Below v2.heap.size v2 v)→Hid (BX 25 v aD #[.int .i64 0,.int .i64 0,.int .i64 0,.int .i64 0])→Hid (v2.heap.size≤aD)→F 1 (Array.setIfInBounds (Array.setIfInBounds (Array.setIfInBounds (Array.setIfInBounds L0 4 true) 9 true) 11 true) 10 true) (Act.put (Act.put (Act.put (Act.put a0 (some 71) (.agg #[.int .i64 (f*cx+x),.int .i64 (f*cy+y)])) (some 76) (.agg #[.int .i64 (f*dx+x),.int .i64 (f*dy+y)])) (some 18) (.pointer (some ⟨aD,0,none⟩))) (some 77) (.agg #[.int .i64 (f*cx+x),.int .i64 (f*cy+y),.int .i64 (f*dx+x),.int .i64 (f*dy+y)])) v:=by
   intro aD v aB aR bW
   subst hF ha0 hL0
   simp only [PT] at  ⊢
   have hHeld:=aO.out _ aB.out
   refine ryy [12] ?_
   refine .cons rfl (fun K hK=>?_) .nil
   have z5_0:=aR.out.cell 0 rfl
   have y5_0:=aR.out.frozen 0
   have z5_1:=aR.out.cell 1 rfl
   have y5_1:=aR.out.frozen 1
   have z5_2:=aR.out.cell 2 rfl
   have y5_2:=aR.out.frozen 2
   have z5_3:=aR.out.cell 3 rfl
   have y5_3:=aR.out.frozen 3
   have z5:=aR.out.lt
   go_simp
   obtain ⟨v5,hV⟩:=nmz (World.setCell (World.setCell (World.setCell (World.setCell v ⟨aD,0,none⟩ (.int .i64 (f*cx+x))) ⟨aD,1,none⟩ (.int .i64 (f*cy+y))) ⟨aD,2,none⟩ (.int .i64 (f*dx+x))) ⟨aD,3,none⟩ (.int .i64 (f*dy+y)))
   rw [hV]
   have dW:=hJ (show sto v aD 0 [.int .i64 (f*cx+x),.int .i64 (f*cy+y),.int .i64 (f*dx+x),.int .i64 (f*dy+y)]=v5 from hV)
   clear hV z5 z5_0 y5_0 z5_1 y5_1 z5_2 y5_2 z5_3 y5_3
   have aS:=hJ (show Below v2.heap.size v2 v5 by rw [←dW.out]; exact below_sto aB.out bW.out _ _)
   have dX:=hJ (show BX 25 v5 aD #[.int .i64 (f*cx+x),.int .i64 (f*cy+y),.int .i64 (f*dx+x),.int .i64 (f*dy+y)] by rw [←dW.out]; exact BX.put aR.out _ _)
   clear hHeld
   refine hK.out _ _ (aO.out _ aS.out) (fun hHeld=>?_)
   clear hK K
   try simp only [PT]
   refine wpAnyH_done (by kernel_rfl) ?_ _
   clear hHeld
   obtain ⟨ru,hru⟩:=nmz (rvV (f*ax+x) (f*ay+y) (f*bx+x) (f*by'+y))
   obtain ⟨rv,hrv⟩:=nmz (rvV (f*cx+x) (f*cy+y) (f*dx+x) (f*dy+y))
   have cD:=hJ hru
   have cU:=hJ hrv
   clear hru hrv
   rcases (show (ru=0∧rv=0)∨(ru=0∧¬ rv=0)∨¬ ru=0 by omega) with ⟨rfl,rfl⟩ | ⟨rfl,hc⟩ | hc
   ·skip
    have bQ:=hJ (BX.new cR.out aS.out)
    obtain ⟨fV,fW,fX,fY⟩:=bQ.out.c4 0 1 2 3 rfl rfl rfl rfl
    go_wp2_with fail
    clear fV fW fX fY
    refine (rvalid7_any (f*ax+x) (f*ay+y) (f*bx+x) (f*by'+y) v5 (sc_ne (show 0 < f by have:=aG.out; omega) aJ.out.2)).mono ?_
    rw [cD.out]
    rintro e w11 ⟨rfl,hb⟩
    have aZ:=hJ hb
    clear hb
    have cE:=hJ (BX.new dX.out aZ.out)
    obtain ⟨fZ,gA,gB,gC⟩:=cE.out.c4 0 1 2 3 rfl rfl rfl rfl
    go_wp2_with fail
    clear fZ gA gB gC
    refine (rvalid7_any (f*cx+x) (f*cy+y) (f*dx+x) (f*dy+y) w11 (sc_ne (show 0 < f by have:=aG.out; omega) aK.out.2)).mono ?_
    rw [cU.out]
    rintro e w16 ⟨rfl,hb⟩
    have aV:=hJ hb
    clear hb
    have cV:=hJ (rv_zero cD.out)
    have cW:=hJ (rv_zero cU.out)
    have aA:=hJ (show f.natAbs < B2 40∧x.natAbs < B2 40∧y.natAbs < B2 40 from ⟨b2_40 (by have:=aG.out; omega),b2_40 aH.out.1,b2_40 aH.out.2⟩)
    obtain ⟨⟨k,⟨p0,q0,u0,v0⟩,p1,q1,u1,v1⟩,hx⟩:=nmz (cutV ax ay bx by' cx cy dx dy)
    obtain ⟨⟨k2,⟨p2,q2,u2,e2⟩,p3,q3,u3,e3⟩,cF⟩:=nmz (cutV (f*ax+x) (f*ay+y) (f*bx+x) (f*by'+y) (f*cx+x) (f*cy+y) (f*dx+x) (f*dy+y))
    have hcs:=cut_sc (f:=f) (x:=x) (y:=y) (show 0 < f by have:=aG.out; omega) aJ.out.vs.1 aK.out.vs.1 cV.out cW.out aA.out.1 aA.out.2.1 aA.out.2.2
    have hck:=cut_k ax ay bx by' cx cy dx dy
    rw [hx,cF] at hcs
    rw [hx] at hck
    dsimp only at hcs hck
    obtain ⟨hkk,hc1,hc2⟩:=hcs
    subst hkk
    have gD:=hJ hx
    have gE:=hJ cF
    have dY:=hJ hc1
    have gF:=hJ hc2
    have gG:=hJ hck
    obtain ⟨⟨⟨X0,D0,l0⟩,X1,D1',l1⟩,⟨X2,D2,l2⟩,X3,D3,l3⟩:=cut_vl aJ.out.vs.1 aK.out.vs.1 hx
    have bJ:=hJ l0
    have bK:=hJ l1
    have cG:=hJ l2
    have cH:=hJ l3
    have aI:=hJ (cut_fr cV.out cW.out cF)
    clear hx cF hc1 hc2 hck l0 l1 l2 l3
    have gH:=hJ (bt (bt (bt aU.out aS.out) aZ.out) aV.out)
    have gI:=hJ (BX.new bT.out gH.out)
    obtain ⟨gJ,gK,gL,gM⟩:=gI.out.c4 0 1 2 3 rfl rfl rfl rfl
    have cX:=hJ (bt (bt aS.out aZ.out) aV.out)
    have gN:=hJ (BX.new bV.out cX.out)
    obtain ⟨gO,gP,gQ,gR⟩:=gN.out.c4 0 1 2 3 rfl rfl rfl rfl
    go_wp2_with fail
    clear gJ gK gL gM gO gP gQ gR
    refine (Meet_any ax ay bx by' cx cy dx dy k2 p0 q0 u0 v0 p1 q1 u1 v1 w16 ⟨aJ.out.vs,aK.out.vs⟩ gD.out).mono ?_
    rintro e w25 ⟨s11,A11,n11,c11,t11,B11,m11,d11,s12,A12,n12,c12,t12,B12,m12,d12,s13,A13,n13,c13,t13,B13,m13,d13,s14,A14,n14,c14,t14,B14,m14,d14,rfl,hr11,hr12,hr13,hr14,hb⟩
    have aW:=hJ hb
    have gS:=hJ hr11
    have gT:=hJ hr12
    have gU:=hJ hr13
    have gV:=hJ hr14
    clear hb hr11 hr12 hr13 hr14
    obtain ⟨x26,cI⟩:=nmz (w25.alloc (.cells #[.int .i64 0,.bool false,.slice none 0 0,.bool false,.slice none 0 0,.bool false,.slice none 0 0,.bool false,.slice none 0 0,.bool false,.slice none 0 0,.bool false,.slice none 0 0,.bool false,.slice none 0 0,.bool false,.slice none 0 0] 39))
    have bL:=hJ (show Below w25.heap.size w25 x26 by rw [←cI]; exact ((Below.refl _ _).alloc (Nat.le_refl _) _))
    have dZ:=hJ (show BX 39 x26 w25.heap.size #[.int .i64 0,.bool false,.slice none 0 0,.bool false,.slice none 0 0,.bool false,.slice none 0 0,.bool false,.slice none 0 0,.bool false,.slice none 0 0,.bool false,.slice none 0 0,.bool false,.slice none 0 0,.bool false,.slice none 0 0] by rw [←cI]; exact (BX.at rfl))
    have bM:=hJ (show w25.heap.size≤w25.heap.size by omega)
    obtain ⟨x27,eA⟩:=nmz (sto x26 w25.heap.size 0 [.int .i64 k2,.bool s11,.slice A11 n11 c11,.bool t11,.slice B11 m11 d11,.bool s12,.slice A12 n12 c12,.bool t12,.slice B12 m12 d12,.bool s13,.slice A13 n13 c13,.bool t13,.slice B13 m13 d13,.bool s14,.slice A14 n14 c14,.bool t14,.slice B14 m14 d14])
    have bB:=hJ eA
    have gW:=hJ (show BX 39 x27 w25.heap.size #[.int .i64 k2,.bool s11,.slice A11 n11 c11,.bool t11,.slice B11 m11 d11,.bool s12,.slice A12 n12 c12,.bool t12,.slice B12 m12 d12,.bool s13,.slice A13 n13 c13,.bool t13,.slice B13 m13 d13,.bool s14,.slice A14 n14 c14,.bool t14,.slice B14 m14 d14] by rw [←bB.out]; exact BX.put_all dZ.out [.int .i64 k2,.bool s11,.slice A11 n11 c11,.bool t11,.slice B11 m11 d11,.bool s12,.slice A12 n12 c12,.bool t12,.slice B12 m12 d12,.bool s13,.slice A13 n13 c13,.bool t13,.slice B13 m13 d13,.bool s14,.slice A14 n14 c14,.bool t14,.slice B14 m14 d14] (by simp))
    have gX:=hJ (bt (bt aZ.out aV.out) aW.out)
    have gY:=hJ (show Below v5.heap.size v5 x27 by rw [←bB.out]; exact below_sto (bt (bt (bt aZ.out aV.out) aW.out) bL.out) (Nat.le_trans (gX.out).size bM.out) _ _)
    have gZ:=hJ (BX.new bQ.out gY.out)
    obtain ⟨hA,hB,hC,hD⟩:=gZ.out.c4 0 1 2 3 rfl rfl rfl rfl
    have hE:=hJ (bt aV.out aW.out)
    have hG:=hJ (show Below w11.heap.size w11 x27 by rw [←bB.out]; exact below_sto (bt (bt aV.out aW.out) bL.out) (Nat.le_trans (hE.out).size bM.out) _ _)
    have hH:=hJ (BX.new cE.out hG.out)
    obtain ⟨hI,hL,hM,hN⟩:=hH.out.c4 0 1 2 3 rfl rfl rfl rfl
    go_wp2_with (refine wpList_st 39 (.tmp 19) (.tmp 91) rfl ?_; (try rw [cI]); refine wpList_store_sto w25.heap.size 0 [.int .i64 k2,.bool s11,.slice A11 n11 c11,.bool t11,.slice B11 m11 d11,.bool s12,.slice A12 n12 c12,.bool t12,.slice B12 m12 d12,.bool s13,.slice A13 n13 c13,.bool t13,.slice B13 m13 d13,.bool s14,.slice A14 n14 c14,.bool t14,.slice B14 m14 d14] dZ.out (by simp) bB.out rfl _ _ _ rfl rfl rfl (by kernel_rfl) rfl ?_)
    clear cI eA hA hB hC hD hI hL hM hN
    refine (Meet_any (f*ax+x) (f*ay+y) (f*bx+x) (f*by'+y) (f*cx+x) (f*cy+y) (f*dx+x) (f*dy+y) k2 p2 q2 u2 e2 p3 q3 u3 e3 x27 ⟨⟨cV.out,(sc_ne (show 0 < f by have:=aG.out; omega) aJ.out.2)⟩,⟨cW.out,(sc_ne (show 0 < f by have:=aG.out; omega) aK.out.2)⟩⟩ gE.out).mono ?_
    rintro e w36 ⟨s15,A15,n15,c15,t15,B15,m15,d15,s16,A16,n16,c16,t16,B16,m16,d16,s17,A17,n17,c17,t17,B17,m17,d17,s18,A18,n18,c18,t18,B18,m18,d18,rfl,hr15,hr16,hr17,hr18,hb⟩
    have aX:=hJ hb
    have eB:=hJ hr15
    have eC:=hJ hr16
    have hO:=hJ hr17
    have hP:=hJ hr18
    clear hb hr15 hr16 hr17 hr18
    obtain ⟨x37,cJ⟩:=nmz (w36.alloc (.cells #[.int .i64 0,.bool false,.slice none 0 0,.bool false,.slice none 0 0,.bool false,.slice none 0 0,.bool false,.slice none 0 0,.bool false,.slice none 0 0,.bool false,.slice none 0 0,.bool false,.slice none 0 0,.bool false,.slice none 0 0] 39))
    have bE:=hJ (show Below w36.heap.size w36 x37 by rw [←cJ]; exact ((Below.refl _ _).alloc (Nat.le_refl _) _))
    have eD:=hJ (show BX 39 x37 w36.heap.size #[.int .i64 0,.bool false,.slice none 0 0,.bool false,.slice none 0 0,.bool false,.slice none 0 0,.bool false,.slice none 0 0,.bool false,.slice none 0 0,.bool false,.slice none 0 0,.bool false,.slice none 0 0,.bool false,.slice none 0 0] by rw [←cJ]; exact (BX.at rfl))
    have bF:=hJ (show w36.heap.size≤w36.heap.size by omega)
    obtain ⟨x38,eE⟩:=nmz (sto x37 w36.heap.size 0 [.int .i64 k2,.bool s15,.slice A15 n15 c15,.bool t15,.slice B15 m15 d15,.bool s16,.slice A16 n16 c16,.bool t16,.slice B16 m16 d16,.bool s17,.slice A17 n17 c17,.bool t17,.slice B17 m17 d17,.bool s18,.slice A18 n18 c18,.bool t18,.slice B18 m18 d18])
    have bA:=hJ eE
    have cY:=hJ (show BX 39 x38 w36.heap.size #[.int .i64 k2,.bool s15,.slice A15 n15 c15,.bool t15,.slice B15 m15 d15,.bool s16,.slice A16 n16 c16,.bool t16,.slice B16 m16 d16,.bool s17,.slice A17 n17 c17,.bool t17,.slice B17 m17 d17,.bool s18,.slice A18 n18 c18,.bool t18,.slice B18 m18 d18] by rw [←bA.out]; exact BX.put_all eD.out [.int .i64 k2,.bool s15,.slice A15 n15 c15,.bool t15,.slice B15 m15 d15,.bool s16,.slice A16 n16 c16,.bool t16,.slice B16 m16 d16,.bool s17,.slice A17 n17 c17,.bool t17,.slice B17 m17 d17,.bool s18,.slice A18 n18 c18,.bool t18,.slice B18 m18 d18] (by simp))
    have hQ:=hJ (show Below x27.heap.size x27 x38 by rw [←bA.out]; exact below_sto (bt aX.out bE.out) (Nat.le_trans (aX.out).size bF.out) _ _)
    have cZ:=hJ (BX.new gW.out hQ.out)
    have hR:=cZ.out.cell 0 rfl
    have hS:=cY.out.cell 0 rfl
    obtain ⟨hT,hU,hW,hX,hY,hZ,iA,iB⟩:=cZ.out.q8 1 2 3 4 5 6 7 8
    have iC:=hJ (bt cX.out aW.out)
    have eF:=hJ (show Below v2.heap.size v2 x27 by rw [←bB.out]; exact below_sto (bt (bt cX.out aW.out) bL.out) (Nat.le_trans (iC.out).size bM.out) _ _)
    have iD:=hJ (bt eF.out aX.out)
    have iE:=hJ (show Below v2.heap.size v2 x38 by rw [←bA.out]; exact below_sto (bt (bt eF.out aX.out) bE.out) (Nat.le_trans (iD.out).size bF.out) _ _)
    have eG:=hJ (BX.new cS.out iE.out)
    obtain ⟨iF,iG⟩:=eG.out.c2 0 1 rfl rfl
    have eH:=hJ (show Below w25.heap.size w25 x27 by rw [←bB.out]; exact below_sto bL.out bM.out _ _)
    have iH:=hJ (bt eH.out aX.out)
    have dA:=hJ (show Below w25.heap.size w25 x38 by rw [←bA.out]; exact below_sto (bt (bt eH.out aX.out) bE.out) (Nat.le_trans (iH.out).size bF.out) _ _)
    have iI:=hJ (PF.new gS.out dA.out)
    have iJ:=hJ (PF.new gT.out dA.out)
    go_wp2_with (refine wpList_st 39 (.tmp 21) (.tmp 97) rfl ?_; (try rw [cJ]); refine wpList_store_sto w36.heap.size 0 [.int .i64 k2,.bool s15,.slice A15 n15 c15,.bool t15,.slice B15 m15 d15,.bool s16,.slice A16 n16 c16,.bool t16,.slice B16 m16 d16,.bool s17,.slice A17 n17 c17,.bool t17,.slice B17 m17 d17,.bool s18,.slice A18 n18 c18,.bool t18,.slice B18 m18 d18] eD.out (by simp) bA.out rfl _ _ _ rfl rfl rfl (by kernel_rfl) rfl ?_)
    clear cJ eE hR hS hT hU hW hX hY hZ iA iB iF iG
    refine (scaled7_any p0 q0 u0 v0 f x y s11 A11 n11 c11 t11 B11 m11 d11 s12 A12 n12 c12 t12 B12 m12 d12 x38 iI.out iJ.out bJ.out bK.out aA.out.1 aA.out.2.1 aA.out.2.2 dT.out).mono ?_
    rintro e w51 ⟨s19,A19,n19,c19,t19,B19,m19,d19,s20,A20,n20,c20,t20,B20,m20,d20,rfl,hr19,hr20,hb⟩
    have bN:=hJ hb
    have eI:=hJ hr19
    have eJ:=hJ hr20
    clear hb hr19 hr20
    obtain ⟨x52,dB⟩:=nmz (w51.alloc (.cells #[.bool s19,.slice A19 n19 c19,.bool t19,.slice B19 m19 d19,.bool s20,.slice A20 n20 c20,.bool t20,.slice B20 m20 d20] 37))
    have bC:=hJ (show Below w51.heap.size w51 x52 by rw [←dB]; exact ((Below.refl _ _).alloc (Nat.le_refl _) _))
    have eK:=hJ (show BX 37 x52 w51.heap.size #[.bool s19,.slice A19 n19 c19,.bool t19,.slice B19 m19 d19,.bool s20,.slice A20 n20 c20,.bool t20,.slice B20 m20 d20] by rw [←dB]; exact (BX.at rfl))
    have cK:=hJ (bt bN.out bC.out)
    have cL:=hJ (BX.new cZ.out cK.out)
    obtain ⟨iK,iL,iM,iN,iO,iP,iQ,iR⟩:=cL.out.q8 9 10 11 12 13 14 15 16
    have iS:=hJ (BX.new eG.out cK.out)
    obtain ⟨iT,iU⟩:=iS.out.c2 0 1 rfl rfl
    have eL:=hJ (bt (bt dA.out bN.out) bC.out)
    have iV:=hJ (PF.new gU.out eL.out)
    have iW:=hJ (PF.new gV.out eL.out)
    go_wp2_with fail
    clear dB iK iL iM iN iO iP iQ iR iT iU
    refine (scaled7_any p1 q1 u1 v1 f x y s13 A13 n13 c13 t13 B13 m13 d13 s14 A14 n14 c14 t14 B14 m14 d14 x52 iV.out iW.out cG.out cH.out aA.out.1 aA.out.2.1 aA.out.2.2 dT.out).mono ?_
    rintro e w63 ⟨s21,A21,n21,c21,t21,B21,m21,d21,s22,A22,n22,c22,t22,B22,m22,d22,rfl,hr21,hr22,hb⟩
    have aY:=hJ hb
    have iX:=hJ hr21
    have iY:=hJ hr22
    clear hb hr21 hr22
    obtain ⟨x64,bX⟩:=nmz (w63.alloc (.cells #[.bool s21,.slice A21 n21 c21,.bool t21,.slice B21 m21 d21,.bool s22,.slice A22 n22 c22,.bool t22,.slice B22 m22 d22] 37))
    have aT:=hJ (show Below w63.heap.size w63 x64 by rw [←bX]; exact ((Below.refl _ _).alloc (Nat.le_refl _) _))
    have iZ:=hJ (show BX 37 x64 w63.heap.size #[.bool s21,.slice A21 n21 c21,.bool t21,.slice B21 m21 d21,.bool s22,.slice A22 n22 c22,.bool t22,.slice B22 m22 d22] by rw [←bX]; exact (BX.at rfl))
    rcases (show k2=0∨k2=1∨k2=2 from gG.out) with hc | hc | hc
    ·subst hc
     have bO:=hJ (bt aY.out aT.out)
     have bG:=hJ (BX.new cL.out bO.out)
     have jA:=bG.out.cell 0 rfl
     have jB:=bG.out.cell 0 rfl
     go_wp2_with fail
     clear bX jA jB
     refine (lives7_any x64).mono ?_
     rintro e w67 ⟨rfl,hb⟩
     have jC:=hJ hb
     clear hb
     have bP:=hJ (bt (bt (bt (bt (bt bD.out aU.out) aS.out) aZ.out) aV.out) aW.out)
     have bH:=hJ (show Below w0.heap.size w0 x27 by rw [←bB.out]; exact below_sto (bt (bt (bt (bt (bt (bt bD.out aU.out) aS.out) aZ.out) aV.out) aW.out) bL.out) (Nat.le_trans (bP.out).size bM.out) _ _)
     have bY:=hJ (bt bH.out aX.out)
     have bZ:=hJ (show Below w0.heap.size w0 x38 by rw [←bA.out]; exact below_sto (bt (bt bH.out aX.out) bE.out) (Nat.le_trans (bY.out).size bF.out) _ _)
     have jD:=hJ (bt (bt (bt (bt (bt bZ.out bN.out) bC.out) aY.out) aT.out) jC.out)
     go_wp2
     go_ret
     exact ⟨rfl,jD.out⟩
    ·subst hc
     have dD:=hJ (pc_sp (dY.out (by decide)))
     have bO:=hJ (bt aY.out aT.out)
     have bG:=hJ (BX.new cL.out bO.out)
     have jE:=bG.out.cell 0 rfl
     have dE:=hJ (BX.new eK.out bO.out)
     obtain ⟨jF,jG,jH,jI,jJ,jK,jL,jM⟩:=dE.out.q8 0 1 2 3 4 5 6 7
     have dG:=hJ (bt (bt cK.out aY.out) aT.out)
     have cM:=hJ (BX.new cY.out dG.out)
     obtain ⟨jN,jO,jP,jQ,jR,jS,jT,jU⟩:=cM.out.q8 1 2 3 4 5 6 7 8
     have cA:=hJ (bt (bt bC.out aY.out) aT.out)
     have dH:=hJ (PF.new eI.out cA.out)
     have dI:=hJ (PF.new eJ.out cA.out)
     have dJ:=hJ (show Below w36.heap.size w36 x38 by rw [←bA.out]; exact below_sto bE.out bF.out _ _)
     have bR:=hJ (bt (bt (bt (bt dJ.out bN.out) bC.out) aY.out) aT.out)
     have dK:=hJ (PF.new eB.out bR.out)
     have dL:=hJ (PF.new eC.out bR.out)
     go_wp2_with fail
     clear bX jE jF jG jH jI jJ jK jL jM jN jO jP jQ jR jS jT jU
     refine (ptcompare_any (spP p0 q0 f x) (spQ p0 q0 f x) (spP u0 v0 f y) (spQ u0 v0 f y) p2 q2 u2 e2 s19 A19 n19 c19 t19 B19 m19 d19 s20 A20 n20 c20 t20 B20 m20 d20 s15 A15 n15 c15 t15 B15 m15 d15 s16 A16 n16 c16 t16 B16 m16 d16 x64 dH.out dI.out dK.out dL.out ⟨⟨(sp_frs bJ.out aA.out.1 aA.out.2.1).2.1.1,(sp_frs bJ.out aA.out.1 aA.out.2.1).2.2.1,(sp_frs bJ.out aA.out.1 aA.out.2.1).2.2.2⟩,⟨(sp_frs bK.out aA.out.1 aA.out.2.2).2.1.1,(sp_frs bK.out aA.out.1 aA.out.2.2).2.2.1,(sp_frs bK.out aA.out.1 aA.out.2.2).2.2.2⟩,⟨aI.out.1.1.1.1,aI.out.1.1.2.1,aI.out.1.1.2.2⟩,⟨aI.out.1.2.1.1,aI.out.1.2.2.1,aI.out.1.2.2.2⟩⟩).mono ?_
     rw [dD.out]
     rintro e w85 ⟨rfl,hb⟩
     have eM:=hJ hb
     clear hb
     have dM:=hJ (BX.new bG.out eM.out)
     have jV:=dM.out.cell 0 rfl
     go_wp2_with fail
     clear jV
     refine (lives7_any w85).mono ?_
     rintro e w87 ⟨rfl,hb⟩
     have jW:=hJ hb
     clear hb
     have bP:=hJ (bt (bt (bt (bt (bt bD.out aU.out) aS.out) aZ.out) aV.out) aW.out)
     have bH:=hJ (show Below w0.heap.size w0 x27 by rw [←bB.out]; exact below_sto (bt (bt (bt (bt (bt (bt bD.out aU.out) aS.out) aZ.out) aV.out) aW.out) bL.out) (Nat.le_trans (bP.out).size bM.out) _ _)
     have bY:=hJ (bt bH.out aX.out)
     have bZ:=hJ (show Below w0.heap.size w0 x38 by rw [←bA.out]; exact below_sto (bt (bt bH.out aX.out) bE.out) (Nat.le_trans (bY.out).size bF.out) _ _)
     have jX:=hJ (bt (bt (bt (bt (bt (bt bZ.out bN.out) bC.out) aY.out) aT.out) eM.out) jW.out)
     go_wp2
     go_ret
     exact ⟨rfl,jX.out⟩
    subst hc
    have dD:=hJ (pc_sp (dY.out (by decide)))
    have jY:=hJ (pc_sp (gF.out rfl))
    have bO:=hJ (bt aY.out aT.out)
    have bG:=hJ (BX.new cL.out bO.out)
    have jZ:=bG.out.cell 0 rfl
    have dE:=hJ (BX.new eK.out bO.out)
    obtain ⟨kA,kB,kC,kD,kE,kF,kG,kH⟩:=dE.out.q8 0 1 2 3 4 5 6 7
    have dG:=hJ (bt (bt cK.out aY.out) aT.out)
    have cM:=hJ (BX.new cY.out dG.out)
    obtain ⟨kI,kJ,kK,kL,kM,kN,kO,kP⟩:=cM.out.q8 1 2 3 4 5 6 7 8
    have cA:=hJ (bt (bt bC.out aY.out) aT.out)
    have dH:=hJ (PF.new eI.out cA.out)
    have dI:=hJ (PF.new eJ.out cA.out)
    have dJ:=hJ (show Below w36.heap.size w36 x38 by rw [←bA.out]; exact below_sto bE.out bF.out _ _)
    have bR:=hJ (bt (bt (bt (bt dJ.out bN.out) bC.out) aY.out) aT.out)
    have dK:=hJ (PF.new eB.out bR.out)
    have dL:=hJ (PF.new eC.out bR.out)
    go_wp2_with fail
    clear bX jZ kA kB kC kD kE kF kG kH kI kJ kK kL kM kN kO kP
    refine (ptcompare_any (spP p0 q0 f x) (spQ p0 q0 f x) (spP u0 v0 f y) (spQ u0 v0 f y) p2 q2 u2 e2 s19 A19 n19 c19 t19 B19 m19 d19 s20 A20 n20 c20 t20 B20 m20 d20 s15 A15 n15 c15 t15 B15 m15 d15 s16 A16 n16 c16 t16 B16 m16 d16 x64 dH.out dI.out dK.out dL.out ⟨⟨(sp_frs bJ.out aA.out.1 aA.out.2.1).2.1.1,(sp_frs bJ.out aA.out.1 aA.out.2.1).2.2.1,(sp_frs bJ.out aA.out.1 aA.out.2.1).2.2.2⟩,⟨(sp_frs bK.out aA.out.1 aA.out.2.2).2.1.1,(sp_frs bK.out aA.out.1 aA.out.2.2).2.2.1,(sp_frs bK.out aA.out.1 aA.out.2.2).2.2.2⟩,⟨aI.out.1.1.1.1,aI.out.1.1.2.1,aI.out.1.1.2.2⟩,⟨aI.out.1.2.1.1,aI.out.1.2.2.1,aI.out.1.2.2.2⟩⟩).mono ?_
    rw [dD.out]
    rintro e w105 ⟨rfl,hb⟩
    have bS:=hJ hb
    clear hb
    have dM:=hJ (BX.new bG.out bS.out)
    have kQ:=dM.out.cell 0 rfl
    have kR:=hJ (BX.new iZ.out bS.out)
    obtain ⟨kS,kT,kU,kV,kW,kX,kY,kZ⟩:=kR.out.q8 0 1 2 3 4 5 6 7
    have lA:=hJ (BX.new cM.out bS.out)
    obtain ⟨lB,lC,lD,lE,lF,lG,lH,lI⟩:=lA.out.q8 9 10 11 12 13 14 15 16
    have eN:=hJ (bt aT.out bS.out)
    have lJ:=hJ (PF.new iX.out eN.out)
    have lK:=hJ (PF.new iY.out eN.out)
    have eO:=hJ (bt bR.out bS.out)
    have lL:=hJ (PF.new hO.out eO.out)
    have lM:=hJ (PF.new hP.out eO.out)
    go_wp2_with fail
    clear kQ kS kT kU kV kW kX kY kZ lB lC lD lE lF lG lH lI
    refine (ptcompare_any (spP p1 q1 f x) (spQ p1 q1 f x) (spP u1 v1 f y) (spQ u1 v1 f y) p3 q3 u3 e3 s21 A21 n21 c21 t21 B21 m21 d21 s22 A22 n22 c22 t22 B22 m22 d22 s17 A17 n17 c17 t17 B17 m17 d17 s18 A18 n18 c18 t18 B18 m18 d18 w105 lJ.out lK.out lL.out lM.out ⟨⟨(sp_frs cG.out aA.out.1 aA.out.2.1).2.1.1,(sp_frs cG.out aA.out.1 aA.out.2.1).2.2.1,(sp_frs cG.out aA.out.1 aA.out.2.1).2.2.2⟩,⟨(sp_frs cH.out aA.out.1 aA.out.2.2).2.1.1,(sp_frs cH.out aA.out.1 aA.out.2.2).2.2.1,(sp_frs cH.out aA.out.1 aA.out.2.2).2.2.2⟩,⟨aI.out.2.1.1.1,aI.out.2.1.2.1,aI.out.2.1.2.2⟩,⟨aI.out.2.2.1.1,aI.out.2.2.2.1,aI.out.2.2.2.2⟩⟩).mono ?_
    rw [jY.out]
    rintro e w123 ⟨rfl,hb⟩
    have lN:=hJ hb
    clear hb
    go_wp2_with fail
    refine (lives7_any w123).mono ?_
    rintro e w124 ⟨rfl,hb⟩
    have lO:=hJ hb
    clear hb
    have bP:=hJ (bt (bt (bt (bt (bt bD.out aU.out) aS.out) aZ.out) aV.out) aW.out)
    have bH:=hJ (show Below w0.heap.size w0 x27 by rw [←bB.out]; exact below_sto (bt (bt (bt (bt (bt (bt bD.out aU.out) aS.out) aZ.out) aV.out) aW.out) bL.out) (Nat.le_trans (bP.out).size bM.out) _ _)
    have bY:=hJ (bt bH.out aX.out)
    have bZ:=hJ (show Below w0.heap.size w0 x38 by rw [←bA.out]; exact below_sto (bt (bt bH.out aX.out) bE.out) (Nat.le_trans (bY.out).size bF.out) _ _)
    have lP:=hJ (bt (bt (bt (bt (bt (bt (bt bZ.out bN.out) bC.out) aY.out) aT.out) bS.out) lN.out) lO.out)
    go_wp2
    go_ret
    exact ⟨rfl,lP.out⟩
   ·have hcz:(rv == 0)=false:=by simp [hc]
    have bQ:=hJ (BX.new cR.out aS.out)
    obtain ⟨lQ,lR,lS,lT⟩:=bQ.out.c4 0 1 2 3 rfl rfl rfl rfl
    go_wp2_with fail
    clear lQ lR lS lT
    refine (rvalid7_any (f*ax+x) (f*ay+y) (f*bx+x) (f*by'+y) v5 (sc_ne (show 0 < f by have:=aG.out; omega) aJ.out.2)).mono ?_
    rw [cD.out]
    rintro e w129 ⟨rfl,hb⟩
    have eP:=hJ hb
    clear hb
    have cE:=hJ (BX.new dX.out eP.out)
    obtain ⟨lU,lV,lW,lX⟩:=cE.out.c4 0 1 2 3 rfl rfl rfl rfl
    go_wp2_with fail
    clear lU lV lW lX
    refine (rvalid7_any (f*cx+x) (f*cy+y) (f*dx+x) (f*dy+y) w129 (sc_ne (show 0 < f by have:=aG.out; omega) aK.out.2)).mono ?_
    rw [cU.out]
    rintro e w134 ⟨rfl,hb⟩
    have lY:=hJ hb
    clear hb
    go_wp2_with fail
    refine (lives7_any w134).mono ?_
    rintro e w135 ⟨rfl,hb⟩
    have lZ:=hJ hb
    clear hb
    have bP:=hJ (bt (bt (bt (bt (bt bD.out aU.out) aS.out) eP.out) lY.out) lZ.out)
    go_wp2
    go_ret
    exact ⟨rfl,bP.out⟩
   have hcz:(ru == 0)=false:=by simp [hc]
   have bQ:=hJ (BX.new cR.out aS.out)
   obtain ⟨mA,mB,mC,mD⟩:=bQ.out.c4 0 1 2 3 rfl rfl rfl rfl
   go_wp2_with fail
   clear mA mB mC mD
   refine (rvalid7_any (f*ax+x) (f*ay+y) (f*bx+x) (f*by'+y) v5 (sc_ne (show 0 < f by have:=aG.out; omega) aJ.out.2)).mono ?_
   rw [cD.out]
   rintro e w140 ⟨rfl,hb⟩
   have mE:=hJ hb
   clear hb
   go_wp2_with fail
   refine (lives7_any w140).mono ?_
   rintro e w141 ⟨rfl,hb⟩
   have mF:=hJ hb
   clear hb
   have mG:=hJ (bt (bt (bt (bt bD.out aU.out) aS.out) mE.out) mF.out)
   go_wp2
   go_ret
   exact ⟨rfl,mG.out⟩
  have eQ:∀ (v:World),Hid (Below v2.heap.size v2 v)→F 2 (Array.setIfInBounds (Array.setIfInBounds (Array.setIfInBounds L0 4 true) 9 true) 10 true) (Act.put (Act.put (Act.put a0 (some 71) (.agg #[.int .i64 (f*cx+x),.int .i64 (f*cy+y)])) (some 76) (.agg #[.int .i64 (f*dx+x),.int .i64 (f*dy+y)])) (some 77) (.agg #[.int .i64 (f*cx+x),.int .i64 (f*cy+y),.int .i64 (f*dx+x),.int .i64 (f*dy+y)])) v:=by
   intro  v aB
   subst hF ha0 hL0
   simp only [PT] at cC ⊢
   have hHeld:=aO.out _ aB.out
   refine ryy [11] ?_
   refine .cons rfl (fun K hK=>?_) .nil
   go_simp
   have eR:=hJ ((Below.refl v.heap.size v).alloc (Nat.le_refl _) (.cells #[.int .i64 0,.int .i64 0,.int .i64 0,.int .i64 0] 25))
   have dN:=hJ (BX.lit v 25 #[.int .i64 0,.int .i64 0,.int .i64 0,.int .i64 0])
   obtain ⟨v142,hV⟩:=nmz (World.alloc v (.cells #[.int .i64 0,.int .i64 0,.int .i64 0,.int .i64 0] 25))
   obtain ⟨aD,hg⟩:=nmz (v.heap.size)
   rw [hV] at eR dN ⊢
   rw [hg] at dN ⊢
   have mH:=hJ (show v2.heap.size≤aD by rw [←hg]; exact aB.out.size)
   clear hV hg
   have eS:=hJ (bt aB.out eR.out)
   clear hHeld
   refine hK.out _ _ (aO.out _ eS.out) (fun hHeld=>?_)
   clear hK K
   try simp only [PT]
   exact wpAnyH_cast (by kernel_rfl) (cC aD v142 eS dN mH)
  have cN:∀ (aD:Nat) (v:World),Hid (Below v2.heap.size v2 v)→Hid (BX 25 v aD #[.int .i64 0,.int .i64 0,.int .i64 0,.int .i64 0])→Hid (v2.heap.size≤aD)→F 3 (Array.setIfInBounds (Array.setIfInBounds L0 4 true) 11 true) (Act.put (Act.put a0 (some 71) (.agg #[.int .i64 (f*cx+x),.int .i64 (f*cy+y)])) (some 18) (.pointer (some ⟨aD,0,none⟩))) v:=by
   intro aD v aB aR bW
   subst hF ha0 hL0
   simp only [PT] at cC ⊢
   have hHeld:=aO.out _ aB.out
   refine ryy [9] ?_
   refine .cons rfl (fun K hK=>?_) .nil
   go_simp
   go_at_call 37
   refine (rscaled7_any dx dy f x y v ⟨sc_i6 aG.out aK.out.1.2.2.1 aH.out.1,sc_i6 aG.out aK.out.1.2.2.2 aH.out.2⟩).mono ?_
   rintro e v143 ⟨rfl,hb⟩
   have eT:=hJ hb
   clear hb
   go_wp2_with fail
   have eU:=hJ (bt aB.out eT.out)
   have mI:=hJ (BX.new aR.out eT.out)
   clear hHeld
   refine hK.out _ _ (aO.out _ eU.out) (fun hHeld=>?_)
   clear hK K
   refine tq 10 ?_
   try simp only [PT]
   exact wpAnyH_cast (by kernel_rfl) (cC aD v143 eU mI bW)
  have eV:∀ (v:World),Hid (Below v2.heap.size v2 v)→F 4 (Array.setIfInBounds L0 4 true) (Act.put a0 (some 71) (.agg #[.int .i64 (f*cx+x),.int .i64 (f*cy+y)])) v:=by
   intro  v aB
   subst hF ha0 hL0
   simp only [PT] at eQ cN ⊢
   have hHeld:=aO.out _ aB.out
   refine ryy [9,11] ?_
   refine .cons rfl (fun K hK=>?_) ?_
   go_simp
   go_at_call 37
   refine (rscaled7_any dx dy f x y v ⟨sc_i6 aG.out aK.out.1.2.2.1 aH.out.1,sc_i6 aG.out aK.out.1.2.2.2 aH.out.2⟩).mono ?_
   rintro e v144 ⟨rfl,hb⟩
   have mJ:=hJ hb
   clear hb
   go_wp2_with fail
   have eW:=hJ (bt aB.out mJ.out)
   clear hHeld
   refine hK.out _ _ (aO.out _ eW.out) (fun hHeld=>?_)
   clear hK K
   refine tq 10 ?_
   try simp only [PT]
   exact wpAnyH_cast (by kernel_rfl) (eQ  v144 eW)
   refine .cons rfl (fun K hK=>?_) .nil
   go_simp
   have eX:=hJ ((Below.refl v.heap.size v).alloc (Nat.le_refl _) (.cells #[.int .i64 0,.int .i64 0,.int .i64 0,.int .i64 0] 25))
   have dO:=hJ (BX.lit v 25 #[.int .i64 0,.int .i64 0,.int .i64 0,.int .i64 0])
   obtain ⟨v145,hV⟩:=nmz (World.alloc v (.cells #[.int .i64 0,.int .i64 0,.int .i64 0,.int .i64 0] 25))
   obtain ⟨aD,hg⟩:=nmz (v.heap.size)
   rw [hV] at eX dO ⊢
   rw [hg] at dO ⊢
   have mK:=hJ (show v2.heap.size≤aD by rw [←hg]; exact aB.out.size)
   clear hV hg
   have eY:=hJ (bt aB.out eX.out)
   clear hHeld
   refine hK.out _ _ (aO.out _ eY.out) (fun hHeld=>?_)
   clear hK K
   try simp only [PT]
   exact wpAnyH_cast (by kernel_rfl) (cN aD v145 eY dO mK)
  have eZ:∀ (aD:Nat) (v:World),Hid (Below v2.heap.size v2 v)→Hid (BX 25 v aD #[.int .i64 0,.int .i64 0,.int .i64 0,.int .i64 0])→Hid (v2.heap.size≤aD)→F 4 (Array.setIfInBounds L0 11 true) (Act.put a0 (some 18) (.pointer (some ⟨aD,0,none⟩))) v:=by
   intro aD v aB aR bW
   subst hF ha0 hL0
   simp only [PT] at cN ⊢
   have hHeld:=aO.out _ aB.out
   refine ryy [4] ?_
   refine .cons rfl (fun K hK=>?_) .nil
   go_simp
   go_at_call 37
   refine (rscaled7_any cx cy f x y v ⟨sc_i6 aG.out aK.out.1.1 aH.out.1,sc_i6 aG.out aK.out.1.2.1 aH.out.2⟩).mono ?_
   rintro e v146 ⟨rfl,hb⟩
   have fA:=hJ hb
   clear hb
   go_wp2_with fail
   have fB:=hJ (bt aB.out fA.out)
   have mL:=hJ (BX.new aR.out fA.out)
   clear hHeld
   refine hK.out _ _ (aO.out _ fB.out) (fun hHeld=>?_)
   clear hK K
   try simp only [PT]
   exact wpAnyH_cast (by kernel_rfl) (cN aD v146 fB mL bW)
  subst hF ha0 hL0
  simp only [PT] at eV eZ
  refine ryy [4,11] ?_
  refine .cons rfl (fun K hK=>?_) ?_
  go_simp
  go_at_call 37
  refine (rscaled7_any cx cy f x y v4 ⟨sc_i6 aG.out aK.out.1.1 aH.out.1,sc_i6 aG.out aK.out.1.2.1 aH.out.2⟩).mono ?_
  rintro e v147 ⟨rfl,hb⟩
  have mM:=hJ hb
  clear hb
  go_wp2_with fail
  have fC:=hJ (bt cT.out mM.out)
  clear hHeld
  refine hK.out _ _ (aO.out _ fC.out) (fun hHeld=>?_)
  clear hK K
  try simp only [PT]
  exact wpAnyH_cast (by kernel_rfl) (eV  v147 fC)
  refine .cons rfl (fun K hK=>?_) .nil
  go_simp
  have fD:=hJ ((Below.refl v4.heap.size v4).alloc (Nat.le_refl _) (.cells #[.int .i64 0,.int .i64 0,.int .i64 0,.int .i64 0] 25))
  have dP:=hJ (BX.lit v4 25 #[.int .i64 0,.int .i64 0,.int .i64 0,.int .i64 0])
  obtain ⟨v148,hV⟩:=nmz (World.alloc v4 (.cells #[.int .i64 0,.int .i64 0,.int .i64 0,.int .i64 0] 25))
  obtain ⟨aD,hg⟩:=nmz (v4.heap.size)
  rw [hV] at fD dP ⊢
  rw [hg] at dP ⊢
  have mN:=hJ (show v2.heap.size≤aD by rw [←hg]; exact cT.out.size)
  clear hV hg
  have fE:=hJ (bt cT.out fD.out)
  clear hHeld
  refine hK.out _ _ (aO.out _ fE.out) (fun hHeld=>?_)
  clear hK K
  try simp only [PT]
  exact wpAnyH_cast (by kernel_rfl) (eZ aD v148 fE dP mN)
 have fF:∀ (v:World),Hid (Below w.heap.size w v)→F 2 (Array.setIfInBounds (Array.setIfInBounds (Array.setIfInBounds L0 4 true) 9 true) 10 true) (Act.put (Act.put (Act.put a0 (some 60) (.agg #[.int .i64 (f*ax+x),.int .i64 (f*ay+y)])) (some 65) (.agg #[.int .i64 (f*bx+x),.int .i64 (f*by'+y)])) (some 66) (.agg #[.int .i64 (f*ax+x),.int .i64 (f*ay+y),.int .i64 (f*bx+x),.int .i64 (f*by'+y)])) v:=by
  intro  v aB
  subst hF ha0 hL0
  simp only [PT] at cB ⊢
  have hHeld:=aL.out _ aB.out
  refine ryy [11] ?_
  refine .cons rfl (fun K hK=>?_) .nil
  go_simp
  have fG:=hJ ((Below.refl v.heap.size v).alloc (Nat.le_refl _) (.cells #[.int .i64 0,.int .i64 0,.int .i64 0,.int .i64 0] 25))
  have dQ:=hJ (BX.lit v 25 #[.int .i64 0,.int .i64 0,.int .i64 0,.int .i64 0])
  obtain ⟨v149,hV⟩:=nmz (World.alloc v (.cells #[.int .i64 0,.int .i64 0,.int .i64 0,.int .i64 0] 25))
  obtain ⟨aC,hg⟩:=nmz (v.heap.size)
  rw [hV] at fG dQ ⊢
  rw [hg] at dQ ⊢
  have mO:=hJ (show w.heap.size≤aC by rw [←hg]; exact aB.out.size)
  clear hV hg
  have fH:=hJ (bt aB.out fG.out)
  clear hHeld
  refine hK.out _ _ (aL.out _ fH.out) (fun hHeld=>?_)
  clear hK K
  try simp only [PT]
  exact wpAnyH_cast (by kernel_rfl) (cB aC v149 fH dQ mO)
 have cO:∀ (aC:Nat) (v:World),Hid (Below w.heap.size w v)→Hid (BX 25 v aC #[.int .i64 0,.int .i64 0,.int .i64 0,.int .i64 0])→Hid (w.heap.size≤aC)→F 3 (Array.setIfInBounds (Array.setIfInBounds L0 4 true) 11 true) (Act.put (Act.put a0 (some 60) (.agg #[.int .i64 (f*ax+x),.int .i64 (f*ay+y)])) (some 17) (.pointer (some ⟨aC,0,none⟩))) v:=by
  intro aC v aB aM bU
  subst hF ha0 hL0
  simp only [PT] at cB ⊢
  have hHeld:=aL.out _ aB.out
  refine ryy [9] ?_
  refine .cons rfl (fun K hK=>?_) .nil
  go_simp
  go_at_call 37
  refine (rscaled7_any bx by' f x y v ⟨sc_i6 aG.out aJ.out.1.2.2.1 aH.out.1,sc_i6 aG.out aJ.out.1.2.2.2 aH.out.2⟩).mono ?_
  rintro e v150 ⟨rfl,hb⟩
  have fI:=hJ hb
  clear hb
  go_wp2_with fail
  have fJ:=hJ (bt aB.out fI.out)
  have mP:=hJ (BX.new aM.out fI.out)
  clear hHeld
  refine hK.out _ _ (aL.out _ fJ.out) (fun hHeld=>?_)
  clear hK K
  refine tq 10 ?_
  try simp only [PT]
  exact wpAnyH_cast (by kernel_rfl) (cB aC v150 fJ mP bU)
 have fK:∀ (v:World),Hid (Below w.heap.size w v)→F 4 (Array.setIfInBounds L0 4 true) (Act.put a0 (some 60) (.agg #[.int .i64 (f*ax+x),.int .i64 (f*ay+y)])) v:=by
  intro  v aB
  subst hF ha0 hL0
  simp only [PT] at fF cO ⊢
  have hHeld:=aL.out _ aB.out
  refine ryy [9,11] ?_
  refine .cons rfl (fun K hK=>?_) ?_
  go_simp
  go_at_call 37
  refine (rscaled7_any bx by' f x y v ⟨sc_i6 aG.out aJ.out.1.2.2.1 aH.out.1,sc_i6 aG.out aJ.out.1.2.2.2 aH.out.2⟩).mono ?_
  rintro e v151 ⟨rfl,hb⟩
  have mQ:=hJ hb
  clear hb
  go_wp2_with fail
  have fL:=hJ (bt aB.out mQ.out)
  clear hHeld
  refine hK.out _ _ (aL.out _ fL.out) (fun hHeld=>?_)
  clear hK K
  refine tq 10 ?_
  try simp only [PT]
  exact wpAnyH_cast (by kernel_rfl) (fF  v151 fL)
  refine .cons rfl (fun K hK=>?_) .nil
  go_simp
  have fM:=hJ ((Below.refl v.heap.size v).alloc (Nat.le_refl _) (.cells #[.int .i64 0,.int .i64 0,.int .i64 0,.int .i64 0] 25))
  have dR:=hJ (BX.lit v 25 #[.int .i64 0,.int .i64 0,.int .i64 0,.int .i64 0])
  obtain ⟨v152,hV⟩:=nmz (World.alloc v (.cells #[.int .i64 0,.int .i64 0,.int .i64 0,.int .i64 0] 25))
  obtain ⟨aC,hg⟩:=nmz (v.heap.size)
  rw [hV] at fM dR ⊢
  rw [hg] at dR ⊢
  have mR:=hJ (show w.heap.size≤aC by rw [←hg]; exact aB.out.size)
  clear hV hg
  have fN:=hJ (bt aB.out fM.out)
  clear hHeld
  refine hK.out _ _ (aL.out _ fN.out) (fun hHeld=>?_)
  clear hK K
  try simp only [PT]
  exact wpAnyH_cast (by kernel_rfl) (cO aC v152 fN dR mR)
 have fO:∀ (aC:Nat) (v:World),Hid (Below w.heap.size w v)→Hid (BX 25 v aC #[.int .i64 0,.int .i64 0,.int .i64 0,.int .i64 0])→Hid (w.heap.size≤aC)→F 4 (Array.setIfInBounds L0 11 true) (Act.put a0 (some 17) (.pointer (some ⟨aC,0,none⟩))) v:=by
  intro aC v aB aM bU
  subst hF ha0 hL0
  simp only [PT] at cO ⊢
  have hHeld:=aL.out _ aB.out
  refine ryy [4] ?_
  refine .cons rfl (fun K hK=>?_) .nil
  go_simp
  go_at_call 37
  refine (rscaled7_any ax ay f x y v ⟨sc_i6 aG.out aJ.out.1.1 aH.out.1,sc_i6 aG.out aJ.out.1.2.1 aH.out.2⟩).mono ?_
  rintro e v153 ⟨rfl,hb⟩
  have fP:=hJ hb
  clear hb
  go_wp2_with fail
  have fQ:=hJ (bt aB.out fP.out)
  have mS:=hJ (BX.new aM.out fP.out)
  clear hHeld
  refine hK.out _ _ (aL.out _ fQ.out) (fun hHeld=>?_)
  clear hK K
  try simp only [PT]
  exact wpAnyH_cast (by kernel_rfl) (cO aC v153 fQ mS bU)
 subst hF ha0 hL0
 simp only [PT] at fK fO
 refine ryy [4,11] ?_
 refine .cons rfl (fun K hK=>?_) ?_
 go_simp
 go_at_call 37
 refine (rscaled7_any ax ay f x y v1 ⟨sc_i6 aG.out aJ.out.1.1 aH.out.1,sc_i6 aG.out aJ.out.1.2.1 aH.out.2⟩).mono ?_
 rintro e v154 ⟨rfl,hb⟩
 have mT:=hJ hb
 clear hb
 go_wp2_with fail
 have fR:=hJ (bt cQ.out mT.out)
 clear hHeld
 refine hK.out _ _ (aL.out _ fR.out) (fun hHeld=>?_)
 clear hK K
 try simp only [PT]
 exact wpAnyH_cast (by kernel_rfl) (fK  v154 fR)
 refine .cons rfl (fun K hK=>?_) .nil
 go_simp
 have fS:=hJ ((Below.refl v1.heap.size v1).alloc (Nat.le_refl _) (.cells #[.int .i64 0,.int .i64 0,.int .i64 0,.int .i64 0] 25))
 have dS:=hJ (BX.lit v1 25 #[.int .i64 0,.int .i64 0,.int .i64 0,.int .i64 0])
 obtain ⟨v155,hV⟩:=nmz (World.alloc v1 (.cells #[.int .i64 0,.int .i64 0,.int .i64 0,.int .i64 0] 25))
 obtain ⟨aC,hg⟩:=nmz (v1.heap.size)
 rw [hV] at fS dS ⊢
 rw [hg] at dS ⊢
 have mU:=hJ (show w.heap.size≤aC by rw [←hg]; exact cQ.out.size)
 clear hV hg
 have fT:=hJ (bt cQ.out fS.out)
 clear hHeld
 refine hK.out _ _ (aL.out _ fT.out) (fun hHeld=>?_)
 clear hK K
 try simp only [PT]
 exact wpAnyH_cast (by kernel_rfl) (fO aC v155 fT dS mU)
set_option maxRecDepth 100000 in
set_option maxHeartbeats 12800000 in
theorem crossScaled_walk (n m kk fa xx yy:Int) (w:World) (hw:(Lit.int .i64 n).wf=true∧(Lit.int .i64 m).wf=true∧(Lit.int .i64 kk).wf=true∧(Lit.int .i64 fa).wf=true∧(Lit.int .i64 xx).wf=true∧(Lit.int .i64 yy).wf=true) :
  Calls Tryz.prog 8 #[.int .i64 n,.int .i64 m,.int .i64 kk,.int .i64 fa,.int .i64 xx,.int .i64 yy] w fun e w'=>e=.returned (.bool true)∧Below w.heap.size w w':=by
 have aS:=hJ hw
 clear hw
 obtain ⟨j,hj⟩:=nmz (aroundZ fa 4194304)
 have HJ:=hJ hj
 obtain ⟨f,hf⟩:=nmz (1+j)
 have aA:=hJ (show 1≤f∧f≤4194304 by have:=aroundZ_in fa (n:=4194304) (by decide); omega)
 have cC:=hJ (show IntKind.i64.wrap (1+j)=f by rw [←hf]; exact i6_wrap (by have:=aA.out; unfold I6; omega))
 clear hj hf
 go_enter Tryz.func8,Tryz.ntmps8
 go_wp2_with fail
 refine (rpair_any n m kk w ⟨aS.out.1,aS.out.2.1,aS.out.2.2.1⟩).mono ?_
 rintro e w1 ⟨ax,ay,bx,by',cx,cy,dx,dy,rfl,hsp,htp,hb⟩
 have aC:=hJ hb
 clear hb
 have bB:=hJ hsp
 have bC:=hJ htp
 clear hsp htp
 obtain ⟨x2,bD⟩:=nmz ((w1.alloc (.cells #[.int .i64 ax,.int .i64 ay,.int .i64 bx,.int .i64 by'] 25)).alloc (.cells #[.int .i64 cx,.int .i64 cy,.int .i64 dx,.int .i64 dy] 25))
 have aL:=hJ (show Below w1.heap.size w1 x2 by rw [←bD]; exact (((Below.refl _ _).alloc (Nat.le_refl _) _).alloc (by simp only [World.size_alloc]; omega) _))
 have aU:=hJ (show BX 25 x2 w1.heap.size #[.int .i64 ax,.int .i64 ay,.int .i64 bx,.int .i64 by'] by rw [←bD]; exact ((BX.at rfl).alloc _))
 have bE:=hJ (show w1.heap.size≤w1.heap.size by omega)
 have bF:=hJ (show w1.heap.size < x2.heap.size from aU.out.lt)
 have aV:=hJ (show BX 25 x2 (w1.heap.size+1) #[.int .i64 cx,.int .i64 cy,.int .i64 dx,.int .i64 dy] by rw [←bD]; exact (BX.at (by simp only [World.size_alloc])))
 have bG:=hJ (show w1.heap.size≤w1.heap.size+1 by omega)
 have bH:=hJ (show w1.heap.size+1 < x2.heap.size from aV.out.lt)
 go_wp2_with fail
 clear bD
 refine (aroundz_any fa 4194304 x2 (by decide) (by decide) aS.out.2.2.2.1).mono ?_
 rw [HJ.out]
 rintro e w3 ⟨rfl,rfl⟩
 have cD:=cC.out
 go_wp2_with fail
 clear cD
 refine (rbound_any xx x2 aS.out.2.2.2.2.1).mono ?_
 rintro e w4 ⟨x0,rfl,hrb,hb⟩
 have aD:=hJ hb
 clear hb
 have aG:=hJ hrb
 clear hrb
 go_wp2_with fail
 refine (rbound_any yy w4 aS.out.2.2.2.2.2).mono ?_
 rintro e w5 ⟨y0,rfl,hrb,hb⟩
 have aH:=hJ hb
 clear hb
 have aI:=hJ hrb
 clear hrb
 obtain ⟨x6,aT⟩:=nmz (w5.alloc (.cells #[.int .i64 x0,.int .i64 y0] 23))
 have aM:=hJ (show Below w5.heap.size w5 x6 by rw [←aT]; exact ((Below.refl _ _).alloc (Nat.le_refl _) _))
 have aO:=hJ (show BX 23 x6 w5.heap.size #[.int .i64 x0,.int .i64 y0] by rw [←aT]; exact (BX.at rfl))
 have aB:=hJ (show w5.heap.size≤w5.heap.size by omega)
 obtain ⟨r4,hr4⟩:=nmz (xx.tmod 3)
 by_cases hz:r4=0
 ·obtain rfl:=hz
  have bO:IntKind.i64.wrap (96*f)=96*f:=i6_wrap (show I6 (96*f) by have:=aA.out; unfold I6; omega)
  have bP:IntKind.i64.wrap (1073741824 - (96*f))=1073741824 - (96*f):=i6_wrap (show I6 (1073741824 - (96*f)) by have:=aA.out; unfold I6; omega)
  have bQ:=aO.out.frozen 0
  have bR:=aO.out.cell 0 rfl
  obtain ⟨x7,bJ⟩:=nmz (World.setCell x6 ⟨w5.heap.size,0,none⟩ (.int .i64 (1073741824 - (96*f))))
  have aW:=hJ (show sto x6 w5.heap.size 0 [.int .i64 (1073741824 - (96*f))]=x7 from bJ)
  have aX:=hJ (show BX 23 x7 w5.heap.size #[.int .i64 (1073741824 - (96*f)),.int .i64 y0] by rw [←aW.out]; exact BX.put aO.out _ _)
  obtain ⟨r6,hr6⟩:=nmz (yy.tmod 3)
  by_cases hz:r6=0
  ·obtain rfl:=hz
   have bK:IntKind.i64.wrap (96*f)=96*f:=i6_wrap (show I6 (96*f) by have:=aA.out; unfold I6; omega)
   have bL:IntKind.i64.wrap ((-1073741824)+(96*f))=(-1073741824)+(96*f):=i6_wrap (show I6 ((-1073741824)+(96*f)) by have:=aA.out; unfold I6; omega)
   have cE:=aX.out.frozen 1
   have cF:=aX.out.cell 1 rfl
   obtain ⟨x8,bS⟩:=nmz (World.setCell x7 ⟨w5.heap.size,1,none⟩ (.int .i64 ((-1073741824)+(96*f))))
   have bM:=hJ (show sto x7 w5.heap.size 1 [.int .i64 ((-1073741824)+(96*f))]=x8 from bS)
   have bT:=hJ (show BX 23 x8 w5.heap.size #[.int .i64 (1073741824 - (96*f)),.int .i64 ((-1073741824)+(96*f))] by rw [←bM.out]; exact BX.put aX.out _ _)
   have aJ:=hJ (bt aD.out aH.out)
   have aR:=hJ (show Below x2.heap.size x2 x7 by rw [←aW.out]; exact below_sto (bt (bt aD.out aH.out) aM.out) (Nat.le_trans (aJ.out).size aB.out) _ _)
   have bU:=hJ (show Below x2.heap.size x2 x8 by rw [←bM.out]; exact below_sto aR.out (Nat.le_trans (aJ.out).size aB.out) _ _)
   have bV:=hJ (BX.new aU.out bU.out)
   have bW:=hJ (BX.new aV.out bU.out)
   have aK:=hJ (bt (bt (bt aC.out aL.out) aD.out) aH.out)
   have aY:=hJ (show Below w.heap.size w x7 by rw [←aW.out]; exact below_sto (bt (bt (bt (bt aC.out aL.out) aD.out) aH.out) aM.out) (Nat.le_trans (aK.out).size aB.out) _ _)
   have cG:=hJ (show Below w.heap.size w x8 by rw [←bM.out]; exact below_sto aY.out (Nat.le_trans (aK.out).size aB.out) _ _)
   go_upto_region 8 with fail
   clear aT hr4 bO bP bQ bR bJ hr6 bK bL cE cF bS
   refine wp_mono (sca_t ax ay bx by' cx cy dx dy f (1073741824 - (96*f)) ((-1073741824)+(96*f)) w1.heap.size (w1.heap.size+1) w5.heap.size w x8 bB bC aA (hJ (by have h1:=aG.out; have h2:=aI.out; have h3:=aA.out; omega)) (hJ ⟨WalkArith.wf_i64 (by have h1:=aG.out; have h2:=aI.out; have h3:=aA.out; omega),WalkArith.wf_i64 (by have h1:=aG.out; have h2:=aI.out; have h3:=aA.out; omega),WalkArith.wf_i64 (by have h1:=aG.out; have h2:=aI.out; have h3:=aA.out; omega)⟩) bV (hJ (Nat.le_trans (aC.out).size bE.out)) (hJ (bV.out).lt) bW (hJ (Nat.le_trans (aC.out).size bG.out)) (hJ (bW.out).lt) bT (hJ (Nat.le_trans (aK.out).size aB.out)) (hJ (bT.out).lt) (hJ cG.out) ⟨(show w1.heap.size≠w1.heap.size+1 by omega),(show w1.heap.size≠w5.heap.size by have h1:=bF.out; have h2:=aB.out; have h3:=(aJ.out).size; omega),(show w1.heap.size+1≠w5.heap.size by have h1:=bH.out; have h2:=aB.out; have h3:=(aJ.out).size; omega)⟩ _ (by assumption)) (fun e a w h=>by cases e <;> exact h)
  have hqz:(r6 == 0)=false:=by simp [hz]
  clear hz
  have aJ:=hJ (bt aD.out aH.out)
  have aR:=hJ (show Below x2.heap.size x2 x7 by rw [←aW.out]; exact below_sto (bt (bt aD.out aH.out) aM.out) (Nat.le_trans (aJ.out).size aB.out) _ _)
  have aZ:=hJ (BX.new aU.out aR.out)
  have bA:=hJ (BX.new aV.out aR.out)
  have aK:=hJ (bt (bt (bt aC.out aL.out) aD.out) aH.out)
  have aY:=hJ (show Below w.heap.size w x7 by rw [←aW.out]; exact below_sto (bt (bt (bt (bt aC.out aL.out) aD.out) aH.out) aM.out) (Nat.le_trans (aK.out).size aB.out) _ _)
  go_upto_region 8 with fail
  clear aT hr4 bO bP bQ bR bJ hr6
  refine wp_mono (sca_t ax ay bx by' cx cy dx dy f (1073741824 - (96*f)) y0 w1.heap.size (w1.heap.size+1) w5.heap.size w x7 bB bC aA (hJ (by have h1:=aG.out; have h2:=aI.out; have h3:=aA.out; omega)) (hJ ⟨WalkArith.wf_i64 (by have h1:=aG.out; have h2:=aI.out; have h3:=aA.out; omega),WalkArith.wf_i64 (by have h1:=aG.out; have h2:=aI.out; have h3:=aA.out; omega),WalkArith.wf_i64 (by have h1:=aG.out; have h2:=aI.out; have h3:=aA.out; omega)⟩) aZ (hJ (Nat.le_trans (aC.out).size bE.out)) (hJ (aZ.out).lt) bA (hJ (Nat.le_trans (aC.out).size bG.out)) (hJ (bA.out).lt) aX (hJ (Nat.le_trans (aK.out).size aB.out)) (hJ (aX.out).lt) (hJ aY.out) ⟨(show w1.heap.size≠w1.heap.size+1 by omega),(show w1.heap.size≠w5.heap.size by have h1:=bF.out; have h2:=aB.out; have h3:=(aJ.out).size; omega),(show w1.heap.size+1≠w5.heap.size by have h1:=bH.out; have h2:=aB.out; have h3:=(aJ.out).size; omega)⟩ _ (by assumption)) (fun e a w h=>by cases e <;> exact h)
 ·have hqz:(r4 == 0)=false:=by simp [hz]
  clear hz
  obtain ⟨r6,hr6⟩:=nmz (yy.tmod 3)
  by_cases hz:r6=0
  ·obtain rfl:=hz
   have bK:IntKind.i64.wrap (96*f)=96*f:=i6_wrap (show I6 (96*f) by have:=aA.out; unfold I6; omega)
   have bL:IntKind.i64.wrap ((-1073741824)+(96*f))=(-1073741824)+(96*f):=i6_wrap (show I6 ((-1073741824)+(96*f)) by have:=aA.out; unfold I6; omega)
   have cH:=aO.out.frozen 1
   have cI:=aO.out.cell 1 rfl
   obtain ⟨x9,bX⟩:=nmz (World.setCell x6 ⟨w5.heap.size,1,none⟩ (.int .i64 ((-1073741824)+(96*f))))
   have bN:=hJ (show sto x6 w5.heap.size 1 [.int .i64 ((-1073741824)+(96*f))]=x9 from bX)
   have bY:=hJ (show BX 23 x9 w5.heap.size #[.int .i64 x0,.int .i64 ((-1073741824)+(96*f))] by rw [←bN.out]; exact BX.put aO.out _ _)
   have aJ:=hJ (bt aD.out aH.out)
   have aR:=hJ (show Below x2.heap.size x2 x9 by rw [←bN.out]; exact below_sto (bt (bt aD.out aH.out) aM.out) (Nat.le_trans (aJ.out).size aB.out) _ _)
   have aZ:=hJ (BX.new aU.out aR.out)
   have bA:=hJ (BX.new aV.out aR.out)
   have aK:=hJ (bt (bt (bt aC.out aL.out) aD.out) aH.out)
   have aY:=hJ (show Below w.heap.size w x9 by rw [←bN.out]; exact below_sto (bt (bt (bt (bt aC.out aL.out) aD.out) aH.out) aM.out) (Nat.le_trans (aK.out).size aB.out) _ _)
   go_upto_region 8 with fail
   clear aT hr4 hr6 bK bL cH cI bX
   refine wp_mono (sca_t ax ay bx by' cx cy dx dy f x0 ((-1073741824)+(96*f)) w1.heap.size (w1.heap.size+1) w5.heap.size w x9 bB bC aA (hJ (by have h1:=aG.out; have h2:=aI.out; have h3:=aA.out; omega)) (hJ ⟨WalkArith.wf_i64 (by have h1:=aG.out; have h2:=aI.out; have h3:=aA.out; omega),WalkArith.wf_i64 (by have h1:=aG.out; have h2:=aI.out; have h3:=aA.out; omega),WalkArith.wf_i64 (by have h1:=aG.out; have h2:=aI.out; have h3:=aA.out; omega)⟩) aZ (hJ (Nat.le_trans (aC.out).size bE.out)) (hJ (aZ.out).lt) bA (hJ (Nat.le_trans (aC.out).size bG.out)) (hJ (bA.out).lt) bY (hJ (Nat.le_trans (aK.out).size aB.out)) (hJ (bY.out).lt) (hJ aY.out) ⟨(show w1.heap.size≠w1.heap.size+1 by omega),(show w1.heap.size≠w5.heap.size by have h1:=bF.out; have h2:=aB.out; have h3:=(aJ.out).size; omega),(show w1.heap.size+1≠w5.heap.size by have h1:=bH.out; have h2:=aB.out; have h3:=(aJ.out).size; omega)⟩ _ (by assumption)) (fun e a w h=>by cases e <;> exact h)
  ·have hqz:(r6 == 0)=false:=by simp [hz]
   clear hz
   have bZ:=hJ (bt (bt aD.out aH.out) aM.out)
   have cA:=hJ (BX.new aU.out bZ.out)
   have cB:=hJ (BX.new aV.out bZ.out)
   have cJ:=hJ (bt (bt (bt (bt aC.out aL.out) aD.out) aH.out) aM.out)
   have aJ:=hJ (bt aD.out aH.out)
   have aK:=hJ (bt (bt (bt aC.out aL.out) aD.out) aH.out)
   go_upto_region 8 with fail
   clear aT hr4 hr6
   refine wp_mono (sca_t ax ay bx by' cx cy dx dy f x0 y0 w1.heap.size (w1.heap.size+1) w5.heap.size w x6 bB bC aA (hJ (by have h1:=aG.out; have h2:=aI.out; have h3:=aA.out; omega)) (hJ ⟨WalkArith.wf_i64 (by have h1:=aG.out; have h2:=aI.out; have h3:=aA.out; omega),WalkArith.wf_i64 (by have h1:=aG.out; have h2:=aI.out; have h3:=aA.out; omega),WalkArith.wf_i64 (by have h1:=aG.out; have h2:=aI.out; have h3:=aA.out; omega)⟩) cA (hJ (Nat.le_trans (aC.out).size bE.out)) (hJ (cA.out).lt) cB (hJ (Nat.le_trans (aC.out).size bG.out)) (hJ (cB.out).lt) aO (hJ (Nat.le_trans (aK.out).size aB.out)) (hJ (aO.out).lt) (hJ cJ.out) ⟨(show w1.heap.size≠w1.heap.size+1 by omega),(show w1.heap.size≠w5.heap.size by have h1:=bF.out; have h2:=aB.out; have h3:=(aJ.out).size; omega),(show w1.heap.size+1≠w5.heap.size by have h1:=bH.out; have h2:=aB.out; have h3:=(aJ.out).size; omega)⟩ _ (by assumption)) (fun e a w h=>by cases e <;> exact h)
theorem crossScaled_law (a0 a1 a2 a3 a4 a5:Int) (w:World) (w0:(Lit.int .i64 a0).wf=true) (w1:(Lit.int .i64 a1).wf=true) (w2:(Lit.int .i64 a2).wf=true) (w3:(Lit.int .i64 a3).wf=true) (w4:(Lit.int .i64 a4).wf=true) (w5:(Lit.int .i64 a5).wf=true) :
  Calls Tryz.prog 8 #[.int .i64 a0,.int .i64 a1,.int .i64 a2,.int .i64 a3,.int .i64 a4,.int .i64 a5] w fun e w'=>e=.returned (.bool true)∧Below w.heap.size w w':=crossScaled_walk a0 a1 a2 a3 a4 a5 w ⟨w0,w1,w2,w3,w4,w5⟩
end Go.Proofs.YtagakcficjcfhaaGreat
