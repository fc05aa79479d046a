/- Contracts of the program's fractions: Mul. Conditions: as each statement has them. -/
import Derived.Test.YtagakcficjcfhaaGreatFD
import Derived.Test.YtagakcficjcfhaaGreatFG
import Derived.Deep.DeepCutAuto
namespace Go.Proofs.YtagakcficjcfhaaGreat
set_option maxRecDepth 100000
set_option maxHeartbeats 12800000
open Go.RowKit
attribute [local go_sem ↓] Go.wp_at_zero Go.wp_at_succ
set_option linter.unusedVariables false
set_option linter.unusedSimpArgs false
def muA (x y:Int):Int:=((Nat.gcd x.natAbs y.natAbs:Nat):Int)
def muN (p q r s:Int):Int:=p / muA p s*(r / muA r q)
def muD (p q r s:Int):Int:=q / muA r q*(s / muA p s)
def muK (p q r s:Int):Prop:=(muN p q r s).natAbs < lim∧(muD p q r s).natAbs < lim
instance (p q r s:Int):Decidable (muK p q r s):=by unfold muK; infer_instance
def muP (p q r s:Int):Int:=if muK p q r s then muN p q r s else 0
def muQ (p q r s:Int):Int:=if muK p q r s then muD p q r s else 1
def muC (p q r s:Int):Int:=if muK p q r s then 0 else 4
theorem mu_one {x y:Int} (hy:0 < y) (hl:y.natAbs < lim):muA x y≠0∧(muA x y).natAbs < lim:=by
 have h1:=Nat.gcd_pos_of_pos_right x.natAbs (show 0 < y.natAbs by omega)
 have h2:=Nat.gcd_le_right x.natAbs (show 0 < y.natAbs by omega)
 exact ⟨by unfold muA; omega,by unfold muA; rw [Int.natAbs_natCast]; omega⟩
theorem ed_lim {x y:Int} (h:x.natAbs < lim):(x / y).natAbs < lim:=Nat.lt_of_le_of_lt (Int.natAbs_ediv_le_natAbs _ _) h
theorem mu_gcd {p q r s:Int} (h:0 < q∧0 < s∧p.natAbs < lim∧q.natAbs < lim∧r.natAbs < lim∧s.natAbs < lim):(muA p s≠0∧(muA p s).natAbs < lim)∧(muA r q≠0∧(muA r q).natAbs < lim)∧(p / muA p s).natAbs < lim∧(r / muA r q).natAbs < lim∧(q / muA r q).natAbs < lim∧(s / muA p s).natAbs < lim :=
 ⟨mu_one h.2.1 h.2.2.2.2.2,mu_one h.1 h.2.2.2.1,ed_lim h.2.2.1,ed_lim h.2.2.2.2.1,ed_lim h.2.2.2.1,ed_lim h.2.2.2.2.2⟩
theorem mu_codes {p q r s u v:Int} (hu:muA p s=u) (hv:muA r q=v) :
  (feV [outC (p / u*(r / v)),outC (q / v*(s / u))]=0→outV (p / u*(r / v))=p / u*(r / v)∧outV (q / v*(s / u))=q / v*(s / u)∧muP p q r s=p / u*(r / v)∧muQ p q r s=q / v*(s / u)∧muC p q r s=0) ∧
  (feV [outC (p / u*(r / v)),outC (q / v*(s / u))]≠0→muP p q r s=0∧muQ p q r s=1∧muC p q r s=4∧feV [outC (p / u*(r / v)),outC (q / v*(s / u))]=4):=by
 have eN:muN p q r s=p / u*(r / v):=by unfold muN; rw [hu,hv]
 have eD:muD p q r s=q / v*(s / u):=by unfold muD; rw [hu,hv]
 have eK:muK p q r s↔(p / u*(r / v)).natAbs < lim∧(q / v*(s / u)).natAbs < lim:=by unfold muK; rw [eN,eD]
 have yes:muK p q r s→muP p q r s=muN p q r s∧muQ p q r s=muD p q r s∧muC p q r s=0:=fun h=>⟨if_pos h,if_pos h,if_pos h⟩
 have no:¬ muK p q r s→muP p q r s=0∧muQ p q r s=1∧muC p q r s=4:=fun h=>⟨if_neg h,if_neg h,if_neg h⟩
 rw [eN,eD] at yes
 generalize p / u*(r / v)=x at *
 generalize q / v*(s / u)=y at *
 rcases outVC x with ⟨a1,a2,a3⟩ | ⟨a1,a2,a3⟩
 ·rcases outVC y with ⟨b1,b2,b3⟩ | ⟨b1,b2,b3⟩
  ·rw [a2,b2,a3,b3]
   exact ⟨fun _=>⟨rfl,rfl,yes (eK.2 ⟨a1,b1⟩)⟩,fun h=>absurd rfl h⟩
  rw [a3,b3]
  have n:=no (fun k=>b1 (eK.1 k).2)
  exact ⟨fun h=>by simp [feV] at h,fun _=>⟨n.1,n.2.1,n.2.2,by simp [feV]⟩⟩
 ·rw [a3]
  have n:=no (fun k=>a1 (eK.1 k).1)
  exact ⟨fun h=>by simp [feV] at h,fun _=>⟨n.1,n.2.1,n.2.2,by simp [feV]⟩⟩
theorem pel_bx {t:TypeId} {w:World} {g:Nat} {s:Bool} {A:Option Addr} {n c:Nat} {y:Int} (hb:BX t w g #[.bool s,.slice A n c]) (h:PI w s A n c y) (hy:y.natAbs < lim):Pel w g [y]:=by
 intro i hi
 match i,hi with
 | 0,_=>exact ⟨s,A,n,c,hb.cell 0 rfl,hb.cell 1 rfl,h,hy⟩
theorem codes_bx {t:TypeId} {w:World} {g:Nat} {a b:Int} (hb:BX t w g #[.int .i64 a,.int .i64 b]):Codes w g [a,b]:=by
 intro i hi
 match i,hi with
 | 0,_=>exact hb.cell 0 rfl
 | 1,_=>exact hb.cell 1 rfl
theorem pv_b1 (x y:Int):pvV x [y]=outV (x*y):=by unfold pvV outV; split <;> rfl
theorem pc_b1 (x y:Int):pvC x [y]=outC (x*y):=by unfold pvC outC; split <;> rfl
theorem mul_lim0 {p q r s u v:Int} (h:feV [outC (p / u*(r / v)),outC (q / v*(s / u))]=0) (_:muA p s=u) (_:muA r q=v):(q / v*(s / u)).natAbs < lim:=by
 unfold feV at h
 by_cases c1:outC (p / u*(r / v))=0
 ·rw [if_pos c1] at h
  unfold feV at h
  by_cases c2:outC (q / v*(s / u))=0
  ·rcases outVC (q / v*(s / u)) with ⟨a1,_,_⟩ | ⟨_,_,a3⟩
   ·exact a1
   rw [a3] at c2
   cases c2
  rw [if_neg c2] at h
  exact absurd h c2
 ·rw [if_neg c1] at h
  exact absurd h c1
theorem fmul_any (p q r s:Int) (sa sb sd se:Bool) (Aa Ab Ad Ae:Option Addr) (na ca nb cb nd cd ne ce:Nat) (w:World) (hx:PF w sa Aa na ca sb Ab nb cb p q) (hy:PF w sd Ad nd cd se Ae ne ce r s) (hq:0 < q) (hs:0 < s) (hlp:p.natAbs < lim) (hlq:q.natAbs < lim) (hlr:r.natAbs < lim) (hls:s.natAbs < lim) :
  Calls Tryz.prog 66 #[.agg #[.bool sa,.slice Aa na ca,.bool sb,.slice Ab nb cb],.agg #[.bool sd,.slice Ad nd cd,.bool se,.slice Ae ne ce]] w (RetFE (muP p q r s) (muQ p q r s) (muC p q r s) w):=by
 have mP:=hJ hx
 have mQ:=hJ hy
 have aI:=hJ (show 0 < q∧0 < s∧p.natAbs < lim∧q.natAbs < lim∧r.natAbs < lim∧s.natAbs < lim from ⟨hq,hs,hlp,hlq,hlr,hls⟩)
 have aN:=hJ (mu_gcd (p:=p) (r:=r) aI.out)
 clear hx hy hq hs hlp hlq hlr hls
 obtain ⟨gu,hu⟩:=nmz (muA p s)
 obtain ⟨gv,hv⟩:=nmz (muA r q)
 have HU:=hJ hu
 have cJ:=hJ hv
 rw [hu,hv] at aN
 clear hu hv
 obtain ⟨x,hxc⟩:=nmz (feV [outC (p / gu*(r / gv)),outC (q / gv*(s / gu))])
 have iA:=hJ hxc
 have cT:=hJ (mu_codes (p:=p) (q:=q) (r:=r) (s:=s) HU.out cJ.out)
 rw [hxc] at cT
 clear hxc
 obtain ⟨x1,cU⟩:=nmz (((w.alloc (.cells #[.bool sa,.slice Aa na ca,.bool sb,.slice Ab nb cb] 35)).alloc (.cells #[.bool sd,.slice Ad nd cd,.bool se,.slice Ae ne ce] 35)).alloc (.cells #[.bool false,.slice none 0 0,.bool false,.slice none 0 0] 35))
 have dO:=hJ (show Below w.heap.size w x1 by rw [←cU]; exact ((((Below.refl _ _).alloc (Nat.le_refl _) _).alloc (by simp only [World.size_alloc]; omega) _).alloc (by simp only [World.size_alloc]; omega) _))
 have cV:=hJ (show BX 35 x1 w.heap.size #[.bool sa,.slice Aa na ca,.bool sb,.slice Ab nb cb] by rw [←cU]; exact (((BX.at rfl).alloc _).alloc _))
 have cW:=hJ (show BX 35 x1 (w.heap.size+1) #[.bool sd,.slice Ad nd cd,.bool se,.slice Ae ne ce] by rw [←cU]; exact ((BX.at (by simp only [World.size_alloc])).alloc _))
 have iB:=hJ (show BX 35 x1 (w.heap.size+2) #[.bool false,.slice none 0 0,.bool false,.slice none 0 0] by rw [←cU]; exact (BX.at (by simp only [World.size_alloc])))
 have iC:=hJ (show w.heap.size≤w.heap.size+2 by omega)
 have aL:Hid (∀ w',Below x1.heap.size x1 w'→(fun w':World=>w'.cell? ⟨w.heap.size,0,none⟩=some (.bool sa)∧w'.cell? ⟨w.heap.size,1,none⟩=some (.slice Aa na ca)∧w'.cell? ⟨w.heap.size,2,none⟩=some (.bool sb)∧w'.cell? ⟨w.heap.size,3,none⟩=some (.slice Ab nb cb)∧w'.cell? ⟨w.heap.size+1,0,none⟩=some (.bool sd)∧w'.cell? ⟨w.heap.size+1,1,none⟩=some (.slice Ad nd cd)∧w'.cell? ⟨w.heap.size+1,2,none⟩=some (.bool se)∧w'.cell? ⟨w.heap.size+1,3,none⟩=some (.slice Ae ne ce)∧Below x1.heap.size x1 w') w'):=hJ (fun w' hb=>⟨(BX.new cV.out hb).cell 0 rfl,(BX.new cV.out hb).cell 1 rfl,(BX.new cV.out hb).cell 2 rfl,(BX.new cV.out hb).cell 3 rfl,(BX.new cW.out hb).cell 0 rfl,(BX.new cW.out hb).cell 1 rfl,(BX.new cW.out hb).cell 2 rfl,(BX.new cW.out hb).cell 3 rfl,hb⟩)
 have bO:=hJ (PF.new mP.out dO.out)
 have bP:=hJ (PF.new mQ.out dO.out)
 go_enter Tryz.func66,Tryz.ntmps66
 go_wp2_with fail
 clear cU
 obtain ⟨v2,hv2⟩:=nmz (World.drew x1)
 have cD:=hJ (show Below x1.heap.size x1 v2 by rw [←hv2]; exact (Below.refl _ _).drew)
 refine whd aL hv2 (fun hHeld=>?_)
 clear hv2
 refine tq 0 ?_
 refine tq 2 ?_
 try simp only [PT]
 refine wpAnyH_name (fun F hF a0 ha0 L0 hL0=>?_)
 have cK:∀ (s11:Bool) (A11:Option Addr) (n11:Nat) (c11:Nat) (s12:Bool) (A12:Option Addr) (n12:Nat) (c12:Nat) (aB:Nat) (aC:Nat) (v:World),Hid (Below x1.heap.size x1 v)→Hid (PI v s11 A11 n11 c11 q)→Hid (PI v s12 A12 n12 c12 s)→Hid (BX 33 v aB #[.bool false,.slice none 0 0])→Hid (x1.heap.size≤aB)→Hid (BX 33 v aC #[.bool false,.slice none 0 0])→Hid (x1.heap.size≤aC)→Hid (aB≠aC)→F 2 (Array.setIfInBounds (Array.setIfInBounds (Array.setIfInBounds (Array.setIfInBounds L0 1 true) 3 true) 4 true) 5 true) (Act.put (Act.put (Act.put (Act.put a0 (some 16) (.agg #[.bool s11,.slice A11 n11 c11])) (some 18) (.agg #[.bool s12,.slice A12 n12 c12])) (some 6) (.pointer (some ⟨aB,0,none⟩))) (some 7) (.pointer (some ⟨aC,0,none⟩))) v:=by
  intro s11 A11 n11 c11 s12 A12 n12 c12 aB aC v aA aU bZ aS bE aY bF cL
  subst hF ha0 hL0
  simp only [PT] at  ⊢
  have hHeld:=aL.out _ aA.out
  refine ryy [6] ?_
  refine .cons rfl (fun K hK=>?_) .nil
  have z3_0:=aS.out.cell 0 rfl
  have y3_0:=aS.out.frozen 0
  have z3_1:=aS.out.cell 1 rfl
  have y3_1:=aS.out.frozen 1
  have z3:=aS.out.lt
  go_simp
  obtain ⟨v3,hV⟩:=nmz (World.setCell (World.setCell v ⟨aB,0,none⟩ (.bool s11)) ⟨aB,1,none⟩ (.slice A11 n11 c11))
  rw [hV]
  have cX:=hJ (show sto v aB 0 [.bool s11,.slice A11 n11 c11]=v3 from hV)
  clear hV z3 z3_0 y3_0 z3_1 y3_1
  have iD:=hJ (show Below x1.heap.size x1 v3 by rw [←cX.out]; exact below_sto aA.out bE.out _ _)
  have mR:=hJ (show PI v3 s11 A11 n11 c11 q by rw [←cX.out]; exact PIo.sto aU.out aS.out rfl _ _)
  have mS:=hJ (show PI v3 s12 A12 n12 c12 s by rw [←cX.out]; exact PIo.sto bZ.out aS.out rfl _ _)
  have cA:=hJ (show BX 33 v3 aC #[.bool false,.slice none 0 0] by rw [←cX.out]; exact BX.far aY.out cL.out.symm _ _)
  have mT:=hJ (show BX 33 v3 aB #[.bool s11,.slice A11 n11 c11] by rw [←cX.out]; exact BX.put aS.out _ _)
  clear hHeld
  refine hK.out _ _ (aL.out _ iD.out) (fun hHeld=>?_)
  clear hK K
  try simp only [PT]
  refine ryy [7] ?_
  refine .cons rfl (fun K hK=>?_) .nil
  have z4_0:=cA.out.cell 0 rfl
  have y4_0:=cA.out.frozen 0
  have z4_1:=cA.out.cell 1 rfl
  have y4_1:=cA.out.frozen 1
  have z4:=cA.out.lt
  go_simp
  obtain ⟨v4,hV⟩:=nmz (World.setCell (World.setCell v3 ⟨aC,0,none⟩ (.bool s12)) ⟨aC,1,none⟩ (.slice A12 n12 c12))
  rw [hV]
  have cY:=hJ (show sto v3 aC 0 [.bool s12,.slice A12 n12 c12]=v4 from hV)
  clear hV z4 z4_0 y4_0 z4_1 y4_1
  have bQ:=hJ (show Below x1.heap.size x1 v4 by rw [←cY.out]; exact below_sto iD.out bF.out _ _)
  have bR:=hJ (show PI v4 s11 A11 n11 c11 q by rw [←cY.out]; exact PIo.sto mR.out cA.out rfl _ _)
  have bS:=hJ (show PI v4 s12 A12 n12 c12 s by rw [←cY.out]; exact PIo.sto mS.out cA.out rfl _ _)
  have fF:=hJ (show BX 33 v4 aB #[.bool s11,.slice A11 n11 c11] by rw [←cY.out]; exact BX.far mT.out cL.out _ _)
  have fG:=hJ (show BX 33 v4 aC #[.bool s12,.slice A12 n12 c12] by rw [←cY.out]; exact BX.put cA.out _ _)
  clear hHeld
  refine hK.out _ _ (aL.out _ bQ.out) (fun hHeld=>?_)
  clear hK K
  try simp only [PT]
  refine wpAnyH_done (by kernel_rfl) ?_ _
  clear hHeld
  have fH:=hJ (BX.new cV.out bQ.out)
  have fI:=hJ (BX.new cW.out bQ.out)
  have aM:Hid (∀ w',Below v4.heap.size v4 w'→(fun w':World=>w'.cell? ⟨w.heap.size,0,none⟩=some (.bool sa)∧w'.cell? ⟨w.heap.size,1,none⟩=some (.slice Aa na ca)∧w'.cell? ⟨aC,0,none⟩=some (.bool s12)∧w'.cell? ⟨aC,1,none⟩=some (.slice A12 n12 c12)∧w'.cell? ⟨w.heap.size+1,0,none⟩=some (.bool sd)∧w'.cell? ⟨w.heap.size+1,1,none⟩=some (.slice Ad nd cd)∧w'.cell? ⟨aB,0,none⟩=some (.bool s11)∧w'.cell? ⟨aB,1,none⟩=some (.slice A11 n11 c11)∧Below v4.heap.size v4 w') w'):=hJ (fun w' hb=>⟨(BX.new fH.out hb).cell 0 rfl,(BX.new fH.out hb).cell 1 rfl,(BX.new fG.out hb).cell 0 rfl,(BX.new fG.out hb).cell 1 rfl,(BX.new fI.out hb).cell 0 rfl,(BX.new fI.out hb).cell 1 rfl,(BX.new fF.out hb).cell 0 rfl,(BX.new fF.out hb).cell 1 rfl,hb⟩)
  have bT:=hJ (PF.new bO.out bQ.out)
  have bU:=hJ (PF.new bP.out bQ.out)
  go_wp2_with fail
  obtain ⟨v7,hv7⟩:=nmz (World.drew v4)
  have bV:=hJ (show Below v4.heap.size v4 v7 by rw [←hv7]; exact (Below.refl _ _).drew)
  refine whd aM hv7 (fun hHeld=>?_)
  clear hv7
  refine tq 0 ?_
  refine tq 1 ?_
  refine tq 2 ?_
  refine tq 4 ?_
  refine tq 5 ?_
  refine tq 6 ?_
  try simp only [PT]
  refine wpAnyH_name (fun F hF a0 ha0 L0 hL0=>?_)
  have cM:∀ (s13:Bool) (A13:Option Addr) (n13:Nat) (c13:Nat) (s14:Bool) (A14:Option Addr) (n14:Nat) (c14:Nat) (aD:Nat) (aF:Nat) (v:World),Hid (Below v4.heap.size v4 v)→Hid (PI v s13 A13 n13 c13 gu)→Hid (PI v s14 A14 n14 c14 gv)→Hid (BX 33 v aD #[.bool false,.slice none 0 0])→Hid (v4.heap.size≤aD)→Hid (BX 33 v aF #[.bool false,.slice none 0 0])→Hid (v4.heap.size≤aF)→Hid (aD≠aF)→F 2 (Array.setIfInBounds (Array.setIfInBounds (Array.setIfInBounds (Array.setIfInBounds L0 3 true) 7 true) 8 true) 9 true) (Act.put (Act.put (Act.put (Act.put a0 (some 22) (.agg #[.bool s13,.slice A13 n13 c13])) (some 26) (.agg #[.bool s14,.slice A14 n14 c14])) (some 8) (.pointer (some ⟨aD,0,none⟩))) (some 9) (.pointer (some ⟨aF,0,none⟩))) v:=by
   intro s13 A13 n13 c13 s14 A14 n14 c14 aD aF v aA aV cB aT bG aZ bH cN
   subst hF ha0 hL0
   simp only [PT] at  ⊢
   have hHeld:=aM.out _ aA.out
   refine ryy [10] ?_
   refine .cons rfl (fun K hK=>?_) .nil
   have z8_0:=aT.out.cell 0 rfl
   have y8_0:=aT.out.frozen 0
   have z8_1:=aT.out.cell 1 rfl
   have y8_1:=aT.out.frozen 1
   have z8:=aT.out.lt
   go_simp
   obtain ⟨v8,hV⟩:=nmz (World.setCell (World.setCell v ⟨aD,0,none⟩ (.bool s13)) ⟨aD,1,none⟩ (.slice A13 n13 c13))
   rw [hV]
   have cZ:=hJ (show sto v aD 0 [.bool s13,.slice A13 n13 c13]=v8 from hV)
   clear hV z8 z8_0 y8_0 z8_1 y8_1
   have iE:=hJ (show Below v4.heap.size v4 v8 by rw [←cZ.out]; exact below_sto aA.out bG.out _ _)
   have mU:=hJ (show PI v8 s13 A13 n13 c13 gu by rw [←cZ.out]; exact PIo.sto aV.out aT.out rfl _ _)
   have mV:=hJ (show PI v8 s14 A14 n14 c14 gv by rw [←cZ.out]; exact PIo.sto cB.out aT.out rfl _ _)
   have cC:=hJ (show BX 33 v8 aF #[.bool false,.slice none 0 0] by rw [←cZ.out]; exact BX.far aZ.out cN.out.symm _ _)
   have mW:=hJ (show BX 33 v8 aD #[.bool s13,.slice A13 n13 c13] by rw [←cZ.out]; exact BX.put aT.out _ _)
   clear hHeld
   refine hK.out _ _ (aM.out _ iE.out) (fun hHeld=>?_)
   clear hK K
   try simp only [PT]
   refine ryy [11] ?_
   refine .cons rfl (fun K hK=>?_) .nil
   have z9_0:=cC.out.cell 0 rfl
   have y9_0:=cC.out.frozen 0
   have z9_1:=cC.out.cell 1 rfl
   have y9_1:=cC.out.frozen 1
   have z9:=cC.out.lt
   go_simp
   obtain ⟨v9,hV⟩:=nmz (World.setCell (World.setCell v8 ⟨aF,0,none⟩ (.bool s14)) ⟨aF,1,none⟩ (.slice A14 n14 c14))
   rw [hV]
   have dA:=hJ (show sto v8 aF 0 [.bool s14,.slice A14 n14 c14]=v9 from hV)
   clear hV z9 z9_0 y9_0 z9_1 y9_1
   have bL:=hJ (show Below v4.heap.size v4 v9 by rw [←dA.out]; exact below_sto iE.out bH.out _ _)
   have dB:=hJ (show PI v9 s13 A13 n13 c13 gu by rw [←dA.out]; exact PIo.sto mU.out cC.out rfl _ _)
   have dD:=hJ (show PI v9 s14 A14 n14 c14 gv by rw [←dA.out]; exact PIo.sto mV.out cC.out rfl _ _)
   have fJ:=hJ (show BX 33 v9 aD #[.bool s13,.slice A13 n13 c13] by rw [←dA.out]; exact BX.far mW.out cN.out _ _)
   have fK:=hJ (show BX 33 v9 aF #[.bool s14,.slice A14 n14 c14] by rw [←dA.out]; exact BX.put cC.out _ _)
   clear hHeld
   refine hK.out _ _ (aM.out _ bL.out) (fun hHeld=>?_)
   clear hK K
   try simp only [PT]
   refine wpAnyH_done (by kernel_rfl) ?_ _
   clear hHeld
   have iF:=hJ (BX.new fH.out bL.out)
   have iG:=hJ (BX.new fI.out bL.out)
   have aO:Hid (∀ w',Below v9.heap.size v9 w'→(fun w':World=>w'.cell? ⟨w.heap.size,0,none⟩=some (.bool sa)∧w'.cell? ⟨w.heap.size,1,none⟩=some (.slice Aa na ca)∧w'.cell? ⟨aD,0,none⟩=some (.bool s13)∧w'.cell? ⟨aD,1,none⟩=some (.slice A13 n13 c13)∧w'.cell? ⟨w.heap.size+1,0,none⟩=some (.bool sd)∧w'.cell? ⟨w.heap.size+1,1,none⟩=some (.slice Ad nd cd)∧w'.cell? ⟨aF,0,none⟩=some (.bool s14)∧w'.cell? ⟨aF,1,none⟩=some (.slice A14 n14 c14)∧Below v9.heap.size v9 w') w'):=hJ (fun w' hb=>⟨(BX.new iF.out hb).cell 0 rfl,(BX.new iF.out hb).cell 1 rfl,(BX.new fJ.out hb).cell 0 rfl,(BX.new fJ.out hb).cell 1 rfl,(BX.new iG.out hb).cell 0 rfl,(BX.new iG.out hb).cell 1 rfl,(BX.new fK.out hb).cell 0 rfl,(BX.new fK.out hb).cell 1 rfl,hb⟩)
   have dP:=hJ (PF.new bT.out bL.out)
   have dQ:=hJ (PF.new bU.out bL.out)
   go_wp2_with fail
   obtain ⟨v12,hv12⟩:=nmz (World.drew v9)
   have cE:=hJ (show Below v9.heap.size v9 v12 by rw [←hv12]; exact (Below.refl _ _).drew)
   refine whd aO hv12 (fun hHeld=>?_)
   clear hv12
   refine tq 0 ?_
   refine tq 1 ?_
   refine tq 2 ?_
   refine tq 4 ?_
   refine tq 5 ?_
   refine tq 6 ?_
   try simp only [PT]
   refine wpAnyH_name (fun F hF a0 ha0 L0 hL0=>?_)
   have dR:∀ (s15:Bool) (A15:Option Addr) (n15:Nat) (c15:Nat) (s16:Bool) (A16:Option Addr) (n16:Nat) (c16:Nat) (aJ:Nat) (s18:Bool) (A18:Option Addr) (n18:Nat) (c18:Nat) (aG:Nat) (v:World),Hid (Below v9.heap.size v9 v)→Hid (PI v s15 A15 n15 c15 (p / gu))→Hid (PI v s16 A16 n16 c16 (r / gv))→Hid (BX 33 v aJ #[.bool s16,.slice A16 n16 c16])→Hid (v9.heap.size≤aJ)→Hid (PI v s18 A18 n18 c18 (outV (p / gu*(r / gv))))→Hid (BX 33 v aG #[.bool false,.slice none 0 0])→Hid (v9.heap.size≤aG)→Hid (aJ≠aG)→F 2 (Array.setIfInBounds (Array.setIfInBounds (Array.setIfInBounds (Array.setIfInBounds (Array.setIfInBounds (Array.setIfInBounds (Array.setIfInBounds (Array.setIfInBounds L0 3 true) 7 true) 8 true) 9 true) 13 true) 10 true) 11 true) 12 true) (Act.put (Act.put (Act.put (Act.put (Act.put (Act.put (Act.put (Act.put a0 (some 31) (.agg #[.bool s15,.slice A15 n15 c15])) (some 35) (.agg #[.bool s16,.slice A16 n16 c16])) (some 36) (.slice (some ⟨aJ,0,none⟩) 1 1)) (some 37) (.tuple #[.agg #[.bool s18,.slice A18 n18 c18],.int .i64 (outC (p / gu*(r / gv)))])) (some 10) (.pointer (some ⟨aG,0,none⟩))) (some 27) (.tuple #[.agg #[.bool s18,.slice A18 n18 c18],.int .i64 (outC (p / gu*(r / gv)))])) (some 38) (.agg #[.bool s18,.slice A18 n18 c18])) (some 39) (.int .i64 (outC (p / gu*(r / gv))))) v:=by
    intro s15 A15 n15 c15 s16 A16 n16 c16 aJ s18 A18 n18 c18 aG v aA aW bC bJ cF fL bA bW iH
    subst hF ha0 hL0
    simp only [PT] at  ⊢
    have hHeld:=aO.out _ aA.out
    refine ryy [14] ?_
    refine .cons rfl (fun K hK=>?_) .nil
    have z13_0:=bA.out.cell 0 rfl
    have y13_0:=bA.out.frozen 0
    have z13_1:=bA.out.cell 1 rfl
    have y13_1:=bA.out.frozen 1
    have z13:=bA.out.lt
    go_simp
    obtain ⟨v13,hV⟩:=nmz (World.setCell (World.setCell v ⟨aG,0,none⟩ (.bool s18)) ⟨aG,1,none⟩ (.slice A18 n18 c18))
    rw [hV]
    have fM:=hJ (show sto v aG 0 [.bool s18,.slice A18 n18 c18]=v13 from hV)
    clear hV z13 z13_0 y13_0 z13_1 y13_1
    have bM:=hJ (show Below v9.heap.size v9 v13 by rw [←fM.out]; exact below_sto aA.out bW.out _ _)
    have mX:=hJ (show PI v13 s18 A18 n18 c18 (outV (p / gu*(r / gv))) by rw [←fM.out]; exact PIo.sto fL.out bA.out rfl _ _)
    have mY:=hJ (show BX 33 v13 aG #[.bool s18,.slice A18 n18 c18] by rw [←fM.out]; exact BX.put bA.out _ _)
    clear hHeld
    refine hK.out _ _ (aO.out _ bM.out) (fun hHeld=>?_)
    clear hK K
    refine tq 15 ?_
    try simp only [PT]
    refine wpAnyH_done (by kernel_rfl) ?_ _
    clear hHeld
    have dS:=hJ (bt bL.out bM.out)
    have iI:=hJ (BX.new fF.out dS.out)
    have iJ:=hJ (BX.new fK.out bM.out)
    have iK:=hJ (BX.new fG.out dS.out)
    have iL:=hJ (BX.new fJ.out bM.out)
    have aR:Hid (∀ w',Below v13.heap.size v13 w'→(fun w':World=>w'.cell? ⟨aB,0,none⟩=some (.bool s11)∧w'.cell? ⟨aB,1,none⟩=some (.slice A11 n11 c11)∧w'.cell? ⟨aF,0,none⟩=some (.bool s14)∧w'.cell? ⟨aF,1,none⟩=some (.slice A14 n14 c14)∧w'.cell? ⟨aC,0,none⟩=some (.bool s12)∧w'.cell? ⟨aC,1,none⟩=some (.slice A12 n12 c12)∧w'.cell? ⟨aD,0,none⟩=some (.bool s13)∧w'.cell? ⟨aD,1,none⟩=some (.slice A13 n13 c13)∧Below v13.heap.size v13 w') w'):=hJ (fun w' hb=>⟨(BX.new iI.out hb).cell 0 rfl,(BX.new iI.out hb).cell 1 rfl,(BX.new iJ.out hb).cell 0 rfl,(BX.new iJ.out hb).cell 1 rfl,(BX.new iK.out hb).cell 0 rfl,(BX.new iK.out hb).cell 1 rfl,(BX.new iL.out hb).cell 0 rfl,(BX.new iL.out hb).cell 1 rfl,hb⟩)
    have dT:=hJ (PIo.new bR.out dS.out)
    have dU:=hJ (PIo.new dD.out bM.out)
    have dW:=hJ (PIo.new bS.out dS.out)
    have dX:=hJ (PIo.new dB.out bM.out)
    go_wp2_with fail
    obtain ⟨v16,hv16⟩:=nmz (World.drew v13)
    have cG:=hJ (show Below v13.heap.size v13 v16 by rw [←hv16]; exact (Below.refl _ _).drew)
    refine whd aR hv16 (fun hHeld=>?_)
    clear hv16
    refine tq 0 ?_
    refine tq 1 ?_
    refine tq 3 ?_
    refine tq 4 ?_
    try simp only [PT]
    refine wpAnyH_name (fun F hF a0 ha0 L0 hL0=>?_)
    have dY:∀ (s19:Bool) (A19:Option Addr) (n19:Nat) (c19:Nat) (s20:Bool) (A20:Option Addr) (n20:Nat) (c20:Nat) (aK:Nat) (s22:Bool) (A22:Option Addr) (n22:Nat) (c22:Nat) (aH:Nat) (v:World),Hid (Below v13.heap.size v13 v)→Hid (PI v s19 A19 n19 c19 (q / gv))→Hid (PI v s20 A20 n20 c20 (s / gu))→Hid (BX 33 v aK #[.bool s20,.slice A20 n20 c20])→Hid (v13.heap.size≤aK)→Hid (PI v s22 A22 n22 c22 (outV (q / gv*(s / gu))))→Hid (BX 33 v aH #[.bool false,.slice none 0 0])→Hid (v13.heap.size≤aH)→Hid (aK≠aH)→F 2 (Array.setIfInBounds (Array.setIfInBounds (Array.setIfInBounds (Array.setIfInBounds (Array.setIfInBounds (Array.setIfInBounds (Array.setIfInBounds (Array.setIfInBounds L0 2 true) 5 true) 6 true) 7 true) 11 true) 8 true) 9 true) 10 true) (Act.put (Act.put (Act.put (Act.put (Act.put (Act.put (Act.put (Act.put a0 (some 43) (.agg #[.bool s19,.slice A19 n19 c19])) (some 46) (.agg #[.bool s20,.slice A20 n20 c20])) (some 47) (.slice (some ⟨aK,0,none⟩) 1 1)) (some 48) (.tuple #[.agg #[.bool s22,.slice A22 n22 c22],.int .i64 (outC (q / gv*(s / gu)))])) (some 12) (.pointer (some ⟨aH,0,none⟩))) (some 40) (.tuple #[.agg #[.bool s22,.slice A22 n22 c22],.int .i64 (outC (q / gv*(s / gu)))])) (some 49) (.agg #[.bool s22,.slice A22 n22 c22])) (some 50) (.int .i64 (outC (q / gv*(s / gu))))) v:=by
     intro s19 A19 n19 c19 s20 A20 n20 c20 aK s22 A22 n22 c22 aH v aA aX bD bK cH fN bB bX iM
     subst hF ha0 hL0
     simp only [PT] at  ⊢
     have hHeld:=aR.out _ aA.out
     refine ryy [12] ?_
     refine .cons rfl (fun K hK=>?_) .nil
     have z17_0:=bB.out.cell 0 rfl
     have y17_0:=bB.out.frozen 0
     have z17_1:=bB.out.cell 1 rfl
     have y17_1:=bB.out.frozen 1
     have z17:=bB.out.lt
     go_simp
     obtain ⟨v17,hV⟩:=nmz (World.setCell (World.setCell v ⟨aH,0,none⟩ (.bool s22)) ⟨aH,1,none⟩ (.slice A22 n22 c22))
     rw [hV]
     have fO:=hJ (show sto v aH 0 [.bool s22,.slice A22 n22 c22]=v17 from hV)
     clear hV z17 z17_0 y17_0 z17_1 y17_1
     have cO:=hJ (show Below v13.heap.size v13 v17 by rw [←fO.out]; exact below_sto aA.out bX.out _ _)
     have mZ:=hJ (show PI v17 s22 A22 n22 c22 (outV (q / gv*(s / gu))) by rw [←fO.out]; exact PIo.sto fN.out bB.out rfl _ _)
     have nA:=hJ (show BX 33 v17 aH #[.bool s22,.slice A22 n22 c22] by rw [←fO.out]; exact BX.put bB.out _ _)
     clear hHeld
     refine hK.out _ _ (aR.out _ cO.out) (fun hHeld=>?_)
     clear hK K
     refine tq 13 ?_
     try simp only [PT]
     refine wpAnyH_done (by kernel_rfl) ?_ _
     clear hHeld
     obtain ⟨x20,fP⟩:=nmz (v17.alloc (.cells #[.int .i64 (outC (p / gu*(r / gv))),.int .i64 (outC (q / gv*(s / gu)))] 40))
     have cI:=hJ (show Below v17.heap.size v17 x20 by rw [←fP]; exact ((Below.refl _ _).alloc (Nat.le_refl _) _))
     have nB:=hJ (show BX 40 x20 v17.heap.size #[.int .i64 (outC (p / gu*(r / gv))),.int .i64 (outC (q / gv*(s / gu)))] by rw [←fP]; exact (BX.at rfl))
     go_wp2_with fail
     clear fP
     refine (ferror_any [outC (p / gu*(r / gv)),outC (q / gv*(s / gu))] v17.heap.size 2 x20 (codes_bx nB.out) rfl (by decide)).mono ?_
     rw [iA.out]
     rintro e w21 ⟨rfl,rfl⟩
     by_cases fQ:x=0
     ·subst fQ
      have HE:=hJ (cT.out.1 rfl)
      clear cT
      have iN:=hJ (bt cO.out cI.out)
      have nC:=hJ (PIo.new mX.out iN.out)
      have nD:=hJ (PIo.new mZ.out cI.out)
      have nE:=hJ (show PI x20 s18 A18 n18 c18 (p / gu*(r / gv)) by have h:=nC.out; rw [HE.out.1] at h; exact h)
      have iO:=hJ (show PI x20 s22 A22 n22 c22 (q / gv*(s / gu)) by have h:=nD.out; rw [HE.out.2.1] at h; exact h)
      have nF:=hJ (show (q / gv*(s / gu)).natAbs < lim from mul_lim0 iA.out HU.out cJ.out)
      have nG:=hJ (BX.new mY.out iN.out)
      obtain ⟨nH,nJ⟩:=nG.out.c2 0 1 rfl rfl
      have nK:=hJ (BX.new nA.out cI.out)
      obtain ⟨nL,nM⟩:=nK.out.c2 0 1 rfl rfl
      go_wp2_with fail
      clear nH nJ nL nM
      refine (flowest_any (p / gu*(r / gv)) (q / gv*(s / gu)) s18 s22 A18 A22 n18 c18 n22 c22 x20 nE.out iO.out (Nat.le_trans (plim iO.out nF.out) (by decide))).mono ?_
      rw [←HE.out.2.2.1,←HE.out.2.2.2.1]
      rintro e w26 ⟨s23,A23,n23,c23,t23,B23,m23,d23,rfl,hr23,hb⟩
      have iP:=hJ hb
      have nN:=hJ hr23
      clear hb hr23
      have nO:=hJ (bt (bt (bt (bt (bt bQ.out bL.out) bM.out) cO.out) cI.out) iP.out)
      have bN:=hJ (BX.new iB.out nO.out)
      have nP:=bN.out.frozen 0
      have nQ:=bN.out.cell 0 rfl
      have nR:=bN.out.frozen 1
      have nS:=bN.out.cell 1 rfl
      have nT:=bN.out.frozen 2
      have nU:=bN.out.cell 2 rfl
      have nV:=bN.out.frozen 3
      have nW:=bN.out.cell 3 rfl
      obtain ⟨x27,iQ⟩:=nmz (World.setCell (World.setCell (World.setCell (World.setCell w26 ⟨w.heap.size+2,0,none⟩ (.bool s23)) ⟨w.heap.size+2,1,none⟩ (.slice A23 n23 c23)) ⟨w.heap.size+2,2,none⟩ (.bool t23)) ⟨w.heap.size+2,3,none⟩ (.slice B23 m23 d23))
      have fR:=hJ (show sto w26 (w.heap.size+2) 0 [.bool s23,.slice A23 n23 c23,.bool t23,.slice B23 m23 d23]=x27 from iQ)
      have nX:=hJ (show BX 35 x27 (w.heap.size+2) #[.bool s23,.slice A23 n23 c23,.bool t23,.slice B23 m23 d23] by rw [←fR.out]; exact BX.put bN.out _ _)
      have nY:=hJ (show Below w.heap.size w x27 by rw [←fR.out]; exact below_sto (bt (bt (bt (bt (bt (bt dO.out bQ.out) bL.out) bM.out) cO.out) cI.out) iP.out) iC.out _ _)
      have nZ:=hJ (show PF x27 s23 A23 n23 c23 t23 B23 m23 d23 (muP p q r s) (muQ p q r s) by rw [←fR.out]; exact PF.sto nN.out bN.out rfl _ _)
      go_wp2
      clear nP nQ nR nS nT nU nV nW iQ
      exact bodyPost_ret (results_cell1 rfl _ _ _ _ _ _ _ rfl nX.out Tryz.underlying35 rfl F_size) rfl (by rw [HE.out.2.2.2.2]; exact ⟨s23,A23,n23,c23,t23,B23,m23,d23,rfl,nZ.out,nY.out⟩)
     have HE:=hJ (cT.out.2 fQ)
     obtain rfl:x=4:=HE.out.2.2.2
     clear fQ cT
     have oA:=hJ (bt (bt (bt (bt bQ.out bL.out) bM.out) cO.out) cI.out)
     have bY:=hJ (BX.new iB.out oA.out)
     have oB:=bY.out.frozen 0
     have oC:=bY.out.cell 0 rfl
     have oD:=bY.out.frozen 1
     have oE:=bY.out.cell 1 rfl
     have oF:=bY.out.frozen 2
     have oG:=bY.out.cell 2 rfl
     have oH:=bY.out.frozen 3
     have oI:=bY.out.cell 3 rfl
     obtain ⟨x28,iR⟩:=nmz (World.setCell (World.setCell (World.setCell (World.setCell x20 ⟨w.heap.size+2,0,none⟩ (.bool false)) ⟨w.heap.size+2,1,none⟩ (.slice none 0 0)) ⟨w.heap.size+2,2,none⟩ (.bool false)) ⟨w.heap.size+2,3,none⟩ (.slice none 0 0))
     have iS:=hJ (show sto x20 (w.heap.size+2) 0 [.bool false,.slice none 0 0,.bool false,.slice none 0 0]=x28 from iR)
     have oJ:=hJ (show BX 35 x28 (w.heap.size+2) #[.bool false,.slice none 0 0,.bool false,.slice none 0 0] by rw [←iS.out]; exact BX.put bY.out _ _)
     have oK:=hJ (show Below w.heap.size w x28 by rw [←iS.out]; exact below_sto (bt (bt (bt (bt (bt dO.out bQ.out) bL.out) bM.out) cO.out) cI.out) iC.out _ _)
     go_wp2
     clear oB oC oD oE oF oG oH oI iR
     exact bodyPost_ret (results_cell1 rfl _ _ _ _ _ _ _ rfl oJ.out Tryz.underlying35 rfl F_size) rfl (by rw [HE.out.1,HE.out.2.1,HE.out.2.2.1]; exact ⟨false,none,0,0,false,none,0,0,rfl,⟨PI.zero _,PI.zero _⟩,oK.out⟩)
    have iT:∀ (s19:Bool) (A19:Option Addr) (n19:Nat) (c19:Nat) (s20:Bool) (A20:Option Addr) (n20:Nat) (c20:Nat) (aK:Nat) (s22:Bool) (A22:Option Addr) (n22:Nat) (c22:Nat) (v:World),Hid (Below v13.heap.size v13 v)→Hid (PI v s19 A19 n19 c19 (q / gv))→Hid (PI v s20 A20 n20 c20 (s / gu))→Hid (BX 33 v aK #[.bool s20,.slice A20 n20 c20])→Hid (v13.heap.size≤aK)→Hid (PI v s22 A22 n22 c22 (outV (q / gv*(s / gu))))→F 3 (Array.setIfInBounds (Array.setIfInBounds (Array.setIfInBounds (Array.setIfInBounds (Array.setIfInBounds (Array.setIfInBounds (Array.setIfInBounds L0 2 true) 5 true) 6 true) 7 true) 8 true) 9 true) 10 true) (Act.put (Act.put (Act.put (Act.put (Act.put (Act.put (Act.put a0 (some 43) (.agg #[.bool s19,.slice A19 n19 c19])) (some 46) (.agg #[.bool s20,.slice A20 n20 c20])) (some 47) (.slice (some ⟨aK,0,none⟩) 1 1)) (some 48) (.tuple #[.agg #[.bool s22,.slice A22 n22 c22],.int .i64 (outC (q / gv*(s / gu)))])) (some 40) (.tuple #[.agg #[.bool s22,.slice A22 n22 c22],.int .i64 (outC (q / gv*(s / gu)))])) (some 49) (.agg #[.bool s22,.slice A22 n22 c22])) (some 50) (.int .i64 (outC (q / gv*(s / gu))))) v:=by
     intro s19 A19 n19 c19 s20 A20 n20 c20 aK s22 A22 n22 c22 v aA aX bD bK cH fN
     subst hF ha0 hL0
     simp only [PT] at dY ⊢
     have hHeld:=aR.out _ aA.out
     refine ryy [11] ?_
     refine .cons rfl (fun K hK=>?_) .nil
     go_simp
     have cP:=hJ ((Below.refl v.heap.size v).alloc (Nat.le_refl _) (.cells #[.bool false,.slice none 0 0] 33))
     have fS:=hJ (BX.lit v 33 #[.bool false,.slice none 0 0])
     obtain ⟨v29,hV⟩:=nmz (World.alloc v (.cells #[.bool false,.slice none 0 0] 33))
     obtain ⟨aH,hg⟩:=nmz (v.heap.size)
     rw [hV] at cP fS ⊢
     rw [hg] at fS ⊢
     have oL:=hJ (show v13.heap.size≤aH by rw [←hg]; exact aA.out.size)
     have oM:=hJ (show aK≠aH by have:=bK.out.lt; rw [hg] at this; omega)
     clear hV hg
     have iU:=hJ (bt aA.out cP.out)
     have oN:=hJ (PIo.new aX.out cP.out)
     have oO:=hJ (PIo.new bD.out cP.out)
     have oP:=hJ (PIo.new fN.out cP.out)
     have oQ:=hJ (BX.new bK.out cP.out)
     clear hHeld
     refine hK.out _ _ (aR.out _ iU.out) (fun hHeld=>?_)
     clear hK K
     try simp only [PT]
     exact wpAnyH_cast (by kernel_rfl) (dY s19 A19 n19 c19 s20 A20 n20 c20 aK s22 A22 n22 c22 aH v29 iU oN oO oQ cH oP fS oL (hJ oM.out))
    have dZ:∀ (s19:Bool) (A19:Option Addr) (n19:Nat) (c19:Nat) (s20:Bool) (A20:Option Addr) (n20:Nat) (c20:Nat) (aK:Nat) (aH:Nat) (v:World),Hid (Below v13.heap.size v13 v)→Hid (PI v s19 A19 n19 c19 (q / gv))→Hid (PI v s20 A20 n20 c20 (s / gu))→Hid (BX 33 v aK #[.bool s20,.slice A20 n20 c20])→Hid (v13.heap.size≤aK)→Hid (BX 33 v aH #[.bool false,.slice none 0 0])→Hid (v13.heap.size≤aH)→Hid (aK≠aH)→F 6 (Array.setIfInBounds (Array.setIfInBounds (Array.setIfInBounds (Array.setIfInBounds L0 2 true) 5 true) 6 true) 11 true) (Act.put (Act.put (Act.put (Act.put a0 (some 43) (.agg #[.bool s19,.slice A19 n19 c19])) (some 46) (.agg #[.bool s20,.slice A20 n20 c20])) (some 47) (.slice (some ⟨aK,0,none⟩) 1 1)) (some 12) (.pointer (some ⟨aH,0,none⟩))) v:=by
     intro s19 A19 n19 c19 s20 A20 n20 c20 aK aH v aA aX bD bK cH bB bX iM
     subst hF ha0 hL0
     simp only [PT] at dY ⊢
     have hHeld:=aR.out _ aA.out
     refine ryy [7] ?_
     refine .cons rfl (fun K hK=>?_) .nil
     go_simp
     go_at_call 91
     refine (fproduct_any [s / gu] (q / gv) s19 A19 n19 c19 aK 1 v aX.out aN.out.2.2.2.2.1 (pel_bx bK.out bD.out aN.out.2.2.2.2.2) bK.out.lt rfl (by decide)).mono ?_
     rw [show pvV (q / gv) [s / gu]=outV (q / gv*(s / gu)) from pv_b1 _ _,show pvC (q / gv) [s / gu]=outC (q / gv*(s / gu)) from pc_b1 _ _]
     rintro e v30 ⟨s22,A22,n22,c22,rfl,hr22,hb⟩
     have dE:=hJ hb
     have oR:=hJ hr22
     clear hb hr22
     go_wp2_with fail
     have iV:=hJ (bt aA.out dE.out)
     have oS:=hJ (PIo.new aX.out dE.out)
     have oT:=hJ (PIo.new bD.out dE.out)
     have oU:=hJ (BX.new bK.out dE.out)
     have oV:=hJ (BX.new bB.out dE.out)
     clear hHeld
     refine hK.out _ _ (aR.out _ iV.out) (fun hHeld=>?_)
     clear hK K
     refine tq 8 ?_
     refine tq 9 ?_
     refine tq 10 ?_
     try simp only [PT]
     exact wpAnyH_cast (by kernel_rfl) (dY s19 A19 n19 c19 s20 A20 n20 c20 aK s22 A22 n22 c22 aH v30 iV oS oT oU cH oR oV bX (hJ iM.out))
    have iW:∀ (s19:Bool) (A19:Option Addr) (n19:Nat) (c19:Nat) (s20:Bool) (A20:Option Addr) (n20:Nat) (c20:Nat) (aK:Nat) (v:World),Hid (Below v13.heap.size v13 v)→Hid (PI v s19 A19 n19 c19 (q / gv))→Hid (PI v s20 A20 n20 c20 (s / gu))→Hid (BX 33 v aK #[.bool s20,.slice A20 n20 c20])→Hid (v13.heap.size≤aK)→F 7 (Array.setIfInBounds (Array.setIfInBounds (Array.setIfInBounds L0 2 true) 5 true) 6 true) (Act.put (Act.put (Act.put a0 (some 43) (.agg #[.bool s19,.slice A19 n19 c19])) (some 46) (.agg #[.bool s20,.slice A20 n20 c20])) (some 47) (.slice (some ⟨aK,0,none⟩) 1 1)) v:=by
     intro s19 A19 n19 c19 s20 A20 n20 c20 aK v aA aX bD bK cH
     subst hF ha0 hL0
     simp only [PT] at iT dZ ⊢
     have hHeld:=aR.out _ aA.out
     refine ryy [7,11] ?_
     refine .cons rfl (fun K hK=>?_) ?_
     go_simp
     go_at_call 91
     refine (fproduct_any [s / gu] (q / gv) s19 A19 n19 c19 aK 1 v aX.out aN.out.2.2.2.2.1 (pel_bx bK.out bD.out aN.out.2.2.2.2.2) bK.out.lt rfl (by decide)).mono ?_
     rw [show pvV (q / gv) [s / gu]=outV (q / gv*(s / gu)) from pv_b1 _ _,show pvC (q / gv) [s / gu]=outC (q / gv*(s / gu)) from pc_b1 _ _]
     rintro e v31 ⟨s22,A22,n22,c22,rfl,hr22,hb⟩
     have eA:=hJ hb
     have oW:=hJ hr22
     clear hb hr22
     go_wp2_with fail
     have iX:=hJ (bt aA.out eA.out)
     have oX:=hJ (PIo.new aX.out eA.out)
     have oY:=hJ (PIo.new bD.out eA.out)
     have oZ:=hJ (BX.new bK.out eA.out)
     clear hHeld
     refine hK.out _ _ (aR.out _ iX.out) (fun hHeld=>?_)
     clear hK K
     refine tq 8 ?_
     refine tq 9 ?_
     refine tq 10 ?_
     try simp only [PT]
     exact wpAnyH_cast (by kernel_rfl) (iT s19 A19 n19 c19 s20 A20 n20 c20 aK s22 A22 n22 c22 v31 iX oX oY oZ cH oW)
     refine .cons rfl (fun K hK=>?_) .nil
     go_simp
     have dF:=hJ ((Below.refl v.heap.size v).alloc (Nat.le_refl _) (.cells #[.bool false,.slice none 0 0] 33))
     have fT:=hJ (BX.lit v 33 #[.bool false,.slice none 0 0])
     obtain ⟨v32,hV⟩:=nmz (World.alloc v (.cells #[.bool false,.slice none 0 0] 33))
     obtain ⟨aH,hg⟩:=nmz (v.heap.size)
     rw [hV] at dF fT ⊢
     rw [hg] at fT ⊢
     have pA:=hJ (show v13.heap.size≤aH by rw [←hg]; exact aA.out.size)
     have pB:=hJ (show aK≠aH by have:=bK.out.lt; rw [hg] at this; omega)
     clear hV hg
     have iY:=hJ (bt aA.out dF.out)
     have pC:=hJ (PIo.new aX.out dF.out)
     have pD:=hJ (PIo.new bD.out dF.out)
     have pE:=hJ (BX.new bK.out dF.out)
     clear hHeld
     refine hK.out _ _ (aR.out _ iY.out) (fun hHeld=>?_)
     clear hK K
     try simp only [PT]
     exact wpAnyH_cast (by kernel_rfl) (dZ s19 A19 n19 c19 s20 A20 n20 c20 aK aH v32 iY pC pD pE cH fT pA (hJ pB.out))
    have eB:∀ (s19:Bool) (A19:Option Addr) (n19:Nat) (c19:Nat) (s20:Bool) (A20:Option Addr) (n20:Nat) (c20:Nat) (aH:Nat) (v:World),Hid (Below v13.heap.size v13 v)→Hid (PI v s19 A19 n19 c19 (q / gv))→Hid (PI v s20 A20 n20 c20 (s / gu))→Hid (BX 33 v aH #[.bool false,.slice none 0 0])→Hid (v13.heap.size≤aH)→F 7 (Array.setIfInBounds (Array.setIfInBounds (Array.setIfInBounds L0 2 true) 5 true) 11 true) (Act.put (Act.put (Act.put a0 (some 43) (.agg #[.bool s19,.slice A19 n19 c19])) (some 46) (.agg #[.bool s20,.slice A20 n20 c20])) (some 12) (.pointer (some ⟨aH,0,none⟩))) v:=by
     intro s19 A19 n19 c19 s20 A20 n20 c20 aH v aA aX bD bB bX
     subst hF ha0 hL0
     simp only [PT] at dZ ⊢
     have hHeld:=aR.out _ aA.out
     refine ryy [6] ?_
     refine .cons rfl (fun K hK=>?_) .nil
     go_simp
     have dG:=hJ ((Below.refl v.heap.size v).alloc (Nat.le_refl _) (.cells #[.bool s20,.slice A20 n20 c20] 33))
     have fU:=hJ (BX.lit v 33 #[.bool s20,.slice A20 n20 c20])
     obtain ⟨v33,hV⟩:=nmz (World.alloc v (.cells #[.bool s20,.slice A20 n20 c20] 33))
     obtain ⟨aK,hg⟩:=nmz (v.heap.size)
     rw [hV] at dG fU ⊢
     rw [hg] at fU ⊢
     have pF:=hJ (show v13.heap.size≤aK by rw [←hg]; exact aA.out.size)
     have pG:=hJ (show aH≠aK by have:=bB.out.lt; rw [hg] at this; omega)
     clear hV hg
     have iZ:=hJ (bt aA.out dG.out)
     have pH:=hJ (PIo.new aX.out dG.out)
     have pI:=hJ (PIo.new bD.out dG.out)
     have pJ:=hJ (BX.new bB.out dG.out)
     clear hHeld
     refine hK.out _ _ (aR.out _ iZ.out) (fun hHeld=>?_)
     clear hK K
     try simp only [PT]
     exact wpAnyH_cast (by kernel_rfl) (dZ s19 A19 n19 c19 s20 A20 n20 c20 aK aH v33 iZ pH pI fU pF pJ bX (hJ pG.out.symm))
    have jA:∀ (s19:Bool) (A19:Option Addr) (n19:Nat) (c19:Nat) (s20:Bool) (A20:Option Addr) (n20:Nat) (c20:Nat) (v:World),Hid (Below v13.heap.size v13 v)→Hid (PI v s19 A19 n19 c19 (q / gv))→Hid (PI v s20 A20 n20 c20 (s / gu))→F 8 (Array.setIfInBounds (Array.setIfInBounds L0 2 true) 5 true) (Act.put (Act.put a0 (some 43) (.agg #[.bool s19,.slice A19 n19 c19])) (some 46) (.agg #[.bool s20,.slice A20 n20 c20])) v:=by
     intro s19 A19 n19 c19 s20 A20 n20 c20 v aA aX bD
     subst hF ha0 hL0
     simp only [PT] at iW eB ⊢
     have hHeld:=aR.out _ aA.out
     refine ryy [6,11] ?_
     refine .cons rfl (fun K hK=>?_) ?_
     go_simp
     have eC:=hJ ((Below.refl v.heap.size v).alloc (Nat.le_refl _) (.cells #[.bool s20,.slice A20 n20 c20] 33))
     have fV:=hJ (BX.lit v 33 #[.bool s20,.slice A20 n20 c20])
     obtain ⟨v34,hV⟩:=nmz (World.alloc v (.cells #[.bool s20,.slice A20 n20 c20] 33))
     obtain ⟨aK,hg⟩:=nmz (v.heap.size)
     rw [hV] at eC fV ⊢
     rw [hg] at fV ⊢
     have pK:=hJ (show v13.heap.size≤aK by rw [←hg]; exact aA.out.size)
     clear hV hg
     have jB:=hJ (bt aA.out eC.out)
     have pL:=hJ (PIo.new aX.out eC.out)
     have pM:=hJ (PIo.new bD.out eC.out)
     clear hHeld
     refine hK.out _ _ (aR.out _ jB.out) (fun hHeld=>?_)
     clear hK K
     try simp only [PT]
     exact wpAnyH_cast (by kernel_rfl) (iW s19 A19 n19 c19 s20 A20 n20 c20 aK v34 jB pL pM fV pK)
     refine .cons rfl (fun K hK=>?_) .nil
     go_simp
     have eD:=hJ ((Below.refl v.heap.size v).alloc (Nat.le_refl _) (.cells #[.bool false,.slice none 0 0] 33))
     have fW:=hJ (BX.lit v 33 #[.bool false,.slice none 0 0])
     obtain ⟨v35,hV⟩:=nmz (World.alloc v (.cells #[.bool false,.slice none 0 0] 33))
     obtain ⟨aH,hg⟩:=nmz (v.heap.size)
     rw [hV] at eD fW ⊢
     rw [hg] at fW ⊢
     have pN:=hJ (show v13.heap.size≤aH by rw [←hg]; exact aA.out.size)
     clear hV hg
     have jC:=hJ (bt aA.out eD.out)
     have pO:=hJ (PIo.new aX.out eD.out)
     have pP:=hJ (PIo.new bD.out eD.out)
     clear hHeld
     refine hK.out _ _ (aR.out _ jC.out) (fun hHeld=>?_)
     clear hK K
     try simp only [PT]
     exact wpAnyH_cast (by kernel_rfl) (eB s19 A19 n19 c19 s20 A20 n20 c20 aH v35 jC pO pP fW pN)
    have eE:∀ (s19:Bool) (A19:Option Addr) (n19:Nat) (c19:Nat) (aH:Nat) (v:World),Hid (Below v13.heap.size v13 v)→Hid (PI v s19 A19 n19 c19 (q / gv))→Hid (BX 33 v aH #[.bool false,.slice none 0 0])→Hid (v13.heap.size≤aH)→F 8 (Array.setIfInBounds (Array.setIfInBounds L0 2 true) 11 true) (Act.put (Act.put a0 (some 43) (.agg #[.bool s19,.slice A19 n19 c19])) (some 12) (.pointer (some ⟨aH,0,none⟩))) v:=by
     intro s19 A19 n19 c19 aH v aA aX bB bX
     subst hF ha0 hL0
     simp only [PT] at eB ⊢
     have hHeld:=aR.out _ aA.out
     refine ryy [5] ?_
     refine .cons rfl (fun K hK=>?_) .nil
     go_simp
     go_at_call 95
     refine (fdivided_any s gu s12 s13 A12 A13 n12 c12 n13 c13 v (PIo.new dW.out aA.out) (PIo.new dX.out aA.out) (Nat.le_trans (plim (PIo.new dW.out aA.out) aI.out.2.2.2.2.2) (by decide)) (Nat.le_trans (plim (PIo.new dX.out aA.out) aN.out.1.2) (by decide)) aN.out.1.1).mono ?_
     rintro e v36 ⟨s20,A20,n20,c20,rfl,hr20,hb⟩
     have fX:=hJ hb
     have pQ:=hJ hr20
     clear hb hr20
     go_wp2_with fail
     have jD:=hJ (bt aA.out fX.out)
     have pR:=hJ (PIo.new aX.out fX.out)
     have pS:=hJ (BX.new bB.out fX.out)
     clear hHeld
     refine hK.out _ _ (aR.out _ jD.out) (fun hHeld=>?_)
     clear hK K
     try simp only [PT]
     exact wpAnyH_cast (by kernel_rfl) (eB s19 A19 n19 c19 s20 A20 n20 c20 aH v36 jD pR pQ pS bX)
    have jE:∀ (s19:Bool) (A19:Option Addr) (n19:Nat) (c19:Nat) (v:World),Hid (Below v13.heap.size v13 v)→Hid (PI v s19 A19 n19 c19 (q / gv))→F 9 (Array.setIfInBounds L0 2 true) (Act.put a0 (some 43) (.agg #[.bool s19,.slice A19 n19 c19])) v:=by
     intro s19 A19 n19 c19 v aA aX
     subst hF ha0 hL0
     simp only [PT] at jA eE ⊢
     have hHeld:=aR.out _ aA.out
     refine ryy [5,11] ?_
     refine .cons rfl (fun K hK=>?_) ?_
     go_simp
     go_at_call 95
     refine (fdivided_any s gu s12 s13 A12 A13 n12 c12 n13 c13 v (PIo.new dW.out aA.out) (PIo.new dX.out aA.out) (Nat.le_trans (plim (PIo.new dW.out aA.out) aI.out.2.2.2.2.2) (by decide)) (Nat.le_trans (plim (PIo.new dX.out aA.out) aN.out.1.2) (by decide)) aN.out.1.1).mono ?_
     rintro e v37 ⟨s20,A20,n20,c20,rfl,hr20,hb⟩
     have jF:=hJ hb
     have pT:=hJ hr20
     clear hb hr20
     go_wp2_with fail
     have jG:=hJ (bt aA.out jF.out)
     have pU:=hJ (PIo.new aX.out jF.out)
     clear hHeld
     refine hK.out _ _ (aR.out _ jG.out) (fun hHeld=>?_)
     clear hK K
     try simp only [PT]
     exact wpAnyH_cast (by kernel_rfl) (jA s19 A19 n19 c19 s20 A20 n20 c20 v37 jG pU pT)
     refine .cons rfl (fun K hK=>?_) .nil
     go_simp
     have fY:=hJ ((Below.refl v.heap.size v).alloc (Nat.le_refl _) (.cells #[.bool false,.slice none 0 0] 33))
     have fZ:=hJ (BX.lit v 33 #[.bool false,.slice none 0 0])
     obtain ⟨v38,hV⟩:=nmz (World.alloc v (.cells #[.bool false,.slice none 0 0] 33))
     obtain ⟨aH,hg⟩:=nmz (v.heap.size)
     rw [hV] at fY fZ ⊢
     rw [hg] at fZ ⊢
     have pV:=hJ (show v13.heap.size≤aH by rw [←hg]; exact aA.out.size)
     clear hV hg
     have jH:=hJ (bt aA.out fY.out)
     have pW:=hJ (PIo.new aX.out fY.out)
     clear hHeld
     refine hK.out _ _ (aR.out _ jH.out) (fun hHeld=>?_)
     clear hK K
     try simp only [PT]
     exact wpAnyH_cast (by kernel_rfl) (eE s19 A19 n19 c19 aH v38 jH pW fZ pV)
    have jI:∀ (aH:Nat) (v:World),Hid (Below v13.heap.size v13 v)→Hid (BX 33 v aH #[.bool false,.slice none 0 0])→Hid (v13.heap.size≤aH)→F 9 (Array.setIfInBounds L0 11 true) (Act.put a0 (some 12) (.pointer (some ⟨aH,0,none⟩))) v:=by
     intro aH v aA bB bX
     subst hF ha0 hL0
     simp only [PT] at eE ⊢
     have hHeld:=aR.out _ aA.out
     refine ryy [2] ?_
     refine .cons rfl (fun K hK=>?_) .nil
     go_simp
     go_at_call 95
     refine (fdivided_any q gv s11 s14 A11 A14 n11 c11 n14 c14 v (PIo.new dT.out aA.out) (PIo.new dU.out aA.out) (Nat.le_trans (plim (PIo.new dT.out aA.out) aI.out.2.2.2.1) (by decide)) (Nat.le_trans (plim (PIo.new dU.out aA.out) aN.out.2.1.2) (by decide)) aN.out.2.1.1).mono ?_
     rintro e v39 ⟨s19,A19,n19,c19,rfl,hr19,hb⟩
     have jJ:=hJ hb
     have pX:=hJ hr19
     clear hb hr19
     go_wp2_with fail
     have jK:=hJ (bt aA.out jJ.out)
     have pY:=hJ (BX.new bB.out jJ.out)
     clear hHeld
     refine hK.out _ _ (aR.out _ jK.out) (fun hHeld=>?_)
     clear hK K
     try simp only [PT]
     exact wpAnyH_cast (by kernel_rfl) (eE s19 A19 n19 c19 aH v39 jK pX pY bX)
    subst hF ha0 hL0
    simp only [PT] at jE jI
    refine ryy [2,11] ?_
    refine .cons rfl (fun K hK=>?_) ?_
    go_simp
    go_at_call 95
    refine (fdivided_any q gv s11 s14 A11 A14 n11 c11 n14 c14 v16 (PIo.new dT.out cG.out) (PIo.new dU.out cG.out) (Nat.le_trans (plim (PIo.new dT.out cG.out) aI.out.2.2.2.1) (by decide)) (Nat.le_trans (plim (PIo.new dU.out cG.out) aN.out.2.1.2) (by decide)) aN.out.2.1.1).mono ?_
    rintro e v40 ⟨s19,A19,n19,c19,rfl,hr19,hb⟩
    have pZ:=hJ hb
    have qA:=hJ hr19
    clear hb hr19
    go_wp2_with fail
    have jL:=hJ (bt cG.out pZ.out)
    clear hHeld
    refine hK.out _ _ (aR.out _ jL.out) (fun hHeld=>?_)
    clear hK K
    try simp only [PT]
    exact wpAnyH_cast (by kernel_rfl) (jE s19 A19 n19 c19 v40 jL qA)
    refine .cons rfl (fun K hK=>?_) .nil
    go_simp
    have jM:=hJ ((Below.refl v16.heap.size v16).alloc (Nat.le_refl _) (.cells #[.bool false,.slice none 0 0] 33))
    have gA:=hJ (BX.lit v16 33 #[.bool false,.slice none 0 0])
    obtain ⟨v41,hV⟩:=nmz (World.alloc v16 (.cells #[.bool false,.slice none 0 0] 33))
    obtain ⟨aH,hg⟩:=nmz (v16.heap.size)
    rw [hV] at jM gA ⊢
    rw [hg] at gA ⊢
    have qB:=hJ (show v13.heap.size≤aH by rw [←hg]; exact cG.out.size)
    clear hV hg
    have jN:=hJ (bt cG.out jM.out)
    clear hHeld
    refine hK.out _ _ (aR.out _ jN.out) (fun hHeld=>?_)
    clear hK K
    try simp only [PT]
    exact wpAnyH_cast (by kernel_rfl) (jI aH v41 jN gA qB)
   have jO:∀ (s15:Bool) (A15:Option Addr) (n15:Nat) (c15:Nat) (s16:Bool) (A16:Option Addr) (n16:Nat) (c16:Nat) (aJ:Nat) (s18:Bool) (A18:Option Addr) (n18:Nat) (c18:Nat) (v:World),Hid (Below v9.heap.size v9 v)→Hid (PI v s15 A15 n15 c15 (p / gu))→Hid (PI v s16 A16 n16 c16 (r / gv))→Hid (BX 33 v aJ #[.bool s16,.slice A16 n16 c16])→Hid (v9.heap.size≤aJ)→Hid (PI v s18 A18 n18 c18 (outV (p / gu*(r / gv))))→F 3 (Array.setIfInBounds (Array.setIfInBounds (Array.setIfInBounds (Array.setIfInBounds (Array.setIfInBounds (Array.setIfInBounds (Array.setIfInBounds L0 3 true) 7 true) 8 true) 9 true) 10 true) 11 true) 12 true) (Act.put (Act.put (Act.put (Act.put (Act.put (Act.put (Act.put a0 (some 31) (.agg #[.bool s15,.slice A15 n15 c15])) (some 35) (.agg #[.bool s16,.slice A16 n16 c16])) (some 36) (.slice (some ⟨aJ,0,none⟩) 1 1)) (some 37) (.tuple #[.agg #[.bool s18,.slice A18 n18 c18],.int .i64 (outC (p / gu*(r / gv)))])) (some 27) (.tuple #[.agg #[.bool s18,.slice A18 n18 c18],.int .i64 (outC (p / gu*(r / gv)))])) (some 38) (.agg #[.bool s18,.slice A18 n18 c18])) (some 39) (.int .i64 (outC (p / gu*(r / gv))))) v:=by
    intro s15 A15 n15 c15 s16 A16 n16 c16 aJ s18 A18 n18 c18 v aA aW bC bJ cF fL
    subst hF ha0 hL0
    simp only [PT] at dR ⊢
    have hHeld:=aO.out _ aA.out
    refine ryy [13] ?_
    refine .cons rfl (fun K hK=>?_) .nil
    go_simp
    have cQ:=hJ ((Below.refl v.heap.size v).alloc (Nat.le_refl _) (.cells #[.bool false,.slice none 0 0] 33))
    have gB:=hJ (BX.lit v 33 #[.bool false,.slice none 0 0])
    obtain ⟨v42,hV⟩:=nmz (World.alloc v (.cells #[.bool false,.slice none 0 0] 33))
    obtain ⟨aG,hg⟩:=nmz (v.heap.size)
    rw [hV] at cQ gB ⊢
    rw [hg] at gB ⊢
    have qC:=hJ (show v9.heap.size≤aG by rw [←hg]; exact aA.out.size)
    have qD:=hJ (show aJ≠aG by have:=bJ.out.lt; rw [hg] at this; omega)
    clear hV hg
    have jP:=hJ (bt aA.out cQ.out)
    have qE:=hJ (PIo.new aW.out cQ.out)
    have qF:=hJ (PIo.new bC.out cQ.out)
    have qG:=hJ (PIo.new fL.out cQ.out)
    have qH:=hJ (BX.new bJ.out cQ.out)
    clear hHeld
    refine hK.out _ _ (aO.out _ jP.out) (fun hHeld=>?_)
    clear hK K
    try simp only [PT]
    exact wpAnyH_cast (by kernel_rfl) (dR s15 A15 n15 c15 s16 A16 n16 c16 aJ s18 A18 n18 c18 aG v42 jP qE qF qH cF qG gB qC (hJ qD.out))
   have eF:∀ (s15:Bool) (A15:Option Addr) (n15:Nat) (c15:Nat) (s16:Bool) (A16:Option Addr) (n16:Nat) (c16:Nat) (aJ:Nat) (aG:Nat) (v:World),Hid (Below v9.heap.size v9 v)→Hid (PI v s15 A15 n15 c15 (p / gu))→Hid (PI v s16 A16 n16 c16 (r / gv))→Hid (BX 33 v aJ #[.bool s16,.slice A16 n16 c16])→Hid (v9.heap.size≤aJ)→Hid (BX 33 v aG #[.bool false,.slice none 0 0])→Hid (v9.heap.size≤aG)→Hid (aJ≠aG)→F 6 (Array.setIfInBounds (Array.setIfInBounds (Array.setIfInBounds (Array.setIfInBounds L0 3 true) 7 true) 8 true) 13 true) (Act.put (Act.put (Act.put (Act.put a0 (some 31) (.agg #[.bool s15,.slice A15 n15 c15])) (some 35) (.agg #[.bool s16,.slice A16 n16 c16])) (some 36) (.slice (some ⟨aJ,0,none⟩) 1 1)) (some 10) (.pointer (some ⟨aG,0,none⟩))) v:=by
    intro s15 A15 n15 c15 s16 A16 n16 c16 aJ aG v aA aW bC bJ cF bA bW iH
    subst hF ha0 hL0
    simp only [PT] at dR ⊢
    have hHeld:=aO.out _ aA.out
    refine ryy [9] ?_
    refine .cons rfl (fun K hK=>?_) .nil
    go_simp
    go_at_call 91
    refine (fproduct_any [r / gv] (p / gu) s15 A15 n15 c15 aJ 1 v aW.out aN.out.2.2.1 (pel_bx bJ.out bC.out aN.out.2.2.2.1) bJ.out.lt rfl (by decide)).mono ?_
    rw [show pvV (p / gu) [r / gv]=outV (p / gu*(r / gv)) from pv_b1 _ _,show pvC (p / gu) [r / gv]=outC (p / gu*(r / gv)) from pc_b1 _ _]
    rintro e v43 ⟨s18,A18,n18,c18,rfl,hr18,hb⟩
    have dH:=hJ hb
    have qI:=hJ hr18
    clear hb hr18
    go_wp2_with fail
    have jQ:=hJ (bt aA.out dH.out)
    have qJ:=hJ (PIo.new aW.out dH.out)
    have qK:=hJ (PIo.new bC.out dH.out)
    have qL:=hJ (BX.new bJ.out dH.out)
    have qM:=hJ (BX.new bA.out dH.out)
    clear hHeld
    refine hK.out _ _ (aO.out _ jQ.out) (fun hHeld=>?_)
    clear hK K
    refine tq 10 ?_
    refine tq 11 ?_
    refine tq 12 ?_
    try simp only [PT]
    exact wpAnyH_cast (by kernel_rfl) (dR s15 A15 n15 c15 s16 A16 n16 c16 aJ s18 A18 n18 c18 aG v43 jQ qJ qK qL cF qI qM bW (hJ iH.out))
   have jR:∀ (s15:Bool) (A15:Option Addr) (n15:Nat) (c15:Nat) (s16:Bool) (A16:Option Addr) (n16:Nat) (c16:Nat) (aJ:Nat) (v:World),Hid (Below v9.heap.size v9 v)→Hid (PI v s15 A15 n15 c15 (p / gu))→Hid (PI v s16 A16 n16 c16 (r / gv))→Hid (BX 33 v aJ #[.bool s16,.slice A16 n16 c16])→Hid (v9.heap.size≤aJ)→F 7 (Array.setIfInBounds (Array.setIfInBounds (Array.setIfInBounds L0 3 true) 7 true) 8 true) (Act.put (Act.put (Act.put a0 (some 31) (.agg #[.bool s15,.slice A15 n15 c15])) (some 35) (.agg #[.bool s16,.slice A16 n16 c16])) (some 36) (.slice (some ⟨aJ,0,none⟩) 1 1)) v:=by
    intro s15 A15 n15 c15 s16 A16 n16 c16 aJ v aA aW bC bJ cF
    subst hF ha0 hL0
    simp only [PT] at jO eF ⊢
    have hHeld:=aO.out _ aA.out
    refine ryy [9,13] ?_
    refine .cons rfl (fun K hK=>?_) ?_
    go_simp
    go_at_call 91
    refine (fproduct_any [r / gv] (p / gu) s15 A15 n15 c15 aJ 1 v aW.out aN.out.2.2.1 (pel_bx bJ.out bC.out aN.out.2.2.2.1) bJ.out.lt rfl (by decide)).mono ?_
    rw [show pvV (p / gu) [r / gv]=outV (p / gu*(r / gv)) from pv_b1 _ _,show pvC (p / gu) [r / gv]=outC (p / gu*(r / gv)) from pc_b1 _ _]
    rintro e v44 ⟨s18,A18,n18,c18,rfl,hr18,hb⟩
    have eG:=hJ hb
    have qN:=hJ hr18
    clear hb hr18
    go_wp2_with fail
    have jS:=hJ (bt aA.out eG.out)
    have qO:=hJ (PIo.new aW.out eG.out)
    have qP:=hJ (PIo.new bC.out eG.out)
    have qQ:=hJ (BX.new bJ.out eG.out)
    clear hHeld
    refine hK.out _ _ (aO.out _ jS.out) (fun hHeld=>?_)
    clear hK K
    refine tq 10 ?_
    refine tq 11 ?_
    refine tq 12 ?_
    try simp only [PT]
    exact wpAnyH_cast (by kernel_rfl) (jO s15 A15 n15 c15 s16 A16 n16 c16 aJ s18 A18 n18 c18 v44 jS qO qP qQ cF qN)
    refine .cons rfl (fun K hK=>?_) .nil
    go_simp
    have dI:=hJ ((Below.refl v.heap.size v).alloc (Nat.le_refl _) (.cells #[.bool false,.slice none 0 0] 33))
    have gC:=hJ (BX.lit v 33 #[.bool false,.slice none 0 0])
    obtain ⟨v45,hV⟩:=nmz (World.alloc v (.cells #[.bool false,.slice none 0 0] 33))
    obtain ⟨aG,hg⟩:=nmz (v.heap.size)
    rw [hV] at dI gC ⊢
    rw [hg] at gC ⊢
    have qR:=hJ (show v9.heap.size≤aG by rw [←hg]; exact aA.out.size)
    have qS:=hJ (show aJ≠aG by have:=bJ.out.lt; rw [hg] at this; omega)
    clear hV hg
    have jT:=hJ (bt aA.out dI.out)
    have qT:=hJ (PIo.new aW.out dI.out)
    have qU:=hJ (PIo.new bC.out dI.out)
    have qV:=hJ (BX.new bJ.out dI.out)
    clear hHeld
    refine hK.out _ _ (aO.out _ jT.out) (fun hHeld=>?_)
    clear hK K
    try simp only [PT]
    exact wpAnyH_cast (by kernel_rfl) (eF s15 A15 n15 c15 s16 A16 n16 c16 aJ aG v45 jT qT qU qV cF gC qR (hJ qS.out))
   have eH:∀ (s15:Bool) (A15:Option Addr) (n15:Nat) (c15:Nat) (s16:Bool) (A16:Option Addr) (n16:Nat) (c16:Nat) (aG:Nat) (v:World),Hid (Below v9.heap.size v9 v)→Hid (PI v s15 A15 n15 c15 (p / gu))→Hid (PI v s16 A16 n16 c16 (r / gv))→Hid (BX 33 v aG #[.bool false,.slice none 0 0])→Hid (v9.heap.size≤aG)→F 7 (Array.setIfInBounds (Array.setIfInBounds (Array.setIfInBounds L0 3 true) 7 true) 13 true) (Act.put (Act.put (Act.put a0 (some 31) (.agg #[.bool s15,.slice A15 n15 c15])) (some 35) (.agg #[.bool s16,.slice A16 n16 c16])) (some 10) (.pointer (some ⟨aG,0,none⟩))) v:=by
    intro s15 A15 n15 c15 s16 A16 n16 c16 aG v aA aW bC bA bW
    subst hF ha0 hL0
    simp only [PT] at eF ⊢
    have hHeld:=aO.out _ aA.out
    refine ryy [8] ?_
    refine .cons rfl (fun K hK=>?_) .nil
    go_simp
    have dJ:=hJ ((Below.refl v.heap.size v).alloc (Nat.le_refl _) (.cells #[.bool s16,.slice A16 n16 c16] 33))
    have gD:=hJ (BX.lit v 33 #[.bool s16,.slice A16 n16 c16])
    obtain ⟨v46,hV⟩:=nmz (World.alloc v (.cells #[.bool s16,.slice A16 n16 c16] 33))
    obtain ⟨aJ,hg⟩:=nmz (v.heap.size)
    rw [hV] at dJ gD ⊢
    rw [hg] at gD ⊢
    have qW:=hJ (show v9.heap.size≤aJ by rw [←hg]; exact aA.out.size)
    have qX:=hJ (show aG≠aJ by have:=bA.out.lt; rw [hg] at this; omega)
    clear hV hg
    have jU:=hJ (bt aA.out dJ.out)
    have qY:=hJ (PIo.new aW.out dJ.out)
    have qZ:=hJ (PIo.new bC.out dJ.out)
    have rA:=hJ (BX.new bA.out dJ.out)
    clear hHeld
    refine hK.out _ _ (aO.out _ jU.out) (fun hHeld=>?_)
    clear hK K
    try simp only [PT]
    exact wpAnyH_cast (by kernel_rfl) (eF s15 A15 n15 c15 s16 A16 n16 c16 aJ aG v46 jU qY qZ gD qW rA bW (hJ qX.out.symm))
   have jV:∀ (s15:Bool) (A15:Option Addr) (n15:Nat) (c15:Nat) (s16:Bool) (A16:Option Addr) (n16:Nat) (c16:Nat) (v:World),Hid (Below v9.heap.size v9 v)→Hid (PI v s15 A15 n15 c15 (p / gu))→Hid (PI v s16 A16 n16 c16 (r / gv))→F 8 (Array.setIfInBounds (Array.setIfInBounds L0 3 true) 7 true) (Act.put (Act.put a0 (some 31) (.agg #[.bool s15,.slice A15 n15 c15])) (some 35) (.agg #[.bool s16,.slice A16 n16 c16])) v:=by
    intro s15 A15 n15 c15 s16 A16 n16 c16 v aA aW bC
    subst hF ha0 hL0
    simp only [PT] at jR eH ⊢
    have hHeld:=aO.out _ aA.out
    refine ryy [8,13] ?_
    refine .cons rfl (fun K hK=>?_) ?_
    go_simp
    have eI:=hJ ((Below.refl v.heap.size v).alloc (Nat.le_refl _) (.cells #[.bool s16,.slice A16 n16 c16] 33))
    have gE:=hJ (BX.lit v 33 #[.bool s16,.slice A16 n16 c16])
    obtain ⟨v47,hV⟩:=nmz (World.alloc v (.cells #[.bool s16,.slice A16 n16 c16] 33))
    obtain ⟨aJ,hg⟩:=nmz (v.heap.size)
    rw [hV] at eI gE ⊢
    rw [hg] at gE ⊢
    have rB:=hJ (show v9.heap.size≤aJ by rw [←hg]; exact aA.out.size)
    clear hV hg
    have jW:=hJ (bt aA.out eI.out)
    have rC:=hJ (PIo.new aW.out eI.out)
    have rD:=hJ (PIo.new bC.out eI.out)
    clear hHeld
    refine hK.out _ _ (aO.out _ jW.out) (fun hHeld=>?_)
    clear hK K
    try simp only [PT]
    exact wpAnyH_cast (by kernel_rfl) (jR s15 A15 n15 c15 s16 A16 n16 c16 aJ v47 jW rC rD gE rB)
    refine .cons rfl (fun K hK=>?_) .nil
    go_simp
    have eJ:=hJ ((Below.refl v.heap.size v).alloc (Nat.le_refl _) (.cells #[.bool false,.slice none 0 0] 33))
    have gF:=hJ (BX.lit v 33 #[.bool false,.slice none 0 0])
    obtain ⟨v48,hV⟩:=nmz (World.alloc v (.cells #[.bool false,.slice none 0 0] 33))
    obtain ⟨aG,hg⟩:=nmz (v.heap.size)
    rw [hV] at eJ gF ⊢
    rw [hg] at gF ⊢
    have rE:=hJ (show v9.heap.size≤aG by rw [←hg]; exact aA.out.size)
    clear hV hg
    have jX:=hJ (bt aA.out eJ.out)
    have rF:=hJ (PIo.new aW.out eJ.out)
    have rG:=hJ (PIo.new bC.out eJ.out)
    clear hHeld
    refine hK.out _ _ (aO.out _ jX.out) (fun hHeld=>?_)
    clear hK K
    try simp only [PT]
    exact wpAnyH_cast (by kernel_rfl) (eH s15 A15 n15 c15 s16 A16 n16 c16 aG v48 jX rF rG gF rE)
   have eK:∀ (s15:Bool) (A15:Option Addr) (n15:Nat) (c15:Nat) (aG:Nat) (v:World),Hid (Below v9.heap.size v9 v)→Hid (PI v s15 A15 n15 c15 (p / gu))→Hid (BX 33 v aG #[.bool false,.slice none 0 0])→Hid (v9.heap.size≤aG)→F 8 (Array.setIfInBounds (Array.setIfInBounds L0 3 true) 13 true) (Act.put (Act.put a0 (some 31) (.agg #[.bool s15,.slice A15 n15 c15])) (some 10) (.pointer (some ⟨aG,0,none⟩))) v:=by
    intro s15 A15 n15 c15 aG v aA aW bA bW
    subst hF ha0 hL0
    simp only [PT] at eH ⊢
    have hHeld:=aO.out _ aA.out
    refine ryy [7] ?_
    refine .cons rfl (fun K hK=>?_) .nil
    go_simp
    go_at_call 95
    refine (fdivided_any r gv sd s14 Ad A14 nd cd n14 c14 v (PF.new dQ.out aA.out).1 (PIo.new dD.out aA.out) (Nat.le_trans (plim (PF.new dQ.out aA.out).1 aI.out.2.2.2.2.1) (by decide)) (Nat.le_trans (plim (PIo.new dD.out aA.out) aN.out.2.1.2) (by decide)) aN.out.2.1.1).mono ?_
    rintro e v49 ⟨s16,A16,n16,c16,rfl,hr16,hb⟩
    have gG:=hJ hb
    have rH:=hJ hr16
    clear hb hr16
    go_wp2_with fail
    have jY:=hJ (bt aA.out gG.out)
    have rI:=hJ (PIo.new aW.out gG.out)
    have rJ:=hJ (BX.new bA.out gG.out)
    clear hHeld
    refine hK.out _ _ (aO.out _ jY.out) (fun hHeld=>?_)
    clear hK K
    try simp only [PT]
    exact wpAnyH_cast (by kernel_rfl) (eH s15 A15 n15 c15 s16 A16 n16 c16 aG v49 jY rI rH rJ bW)
   have jZ:∀ (s15:Bool) (A15:Option Addr) (n15:Nat) (c15:Nat) (v:World),Hid (Below v9.heap.size v9 v)→Hid (PI v s15 A15 n15 c15 (p / gu))→F 9 (Array.setIfInBounds L0 3 true) (Act.put a0 (some 31) (.agg #[.bool s15,.slice A15 n15 c15])) v:=by
    intro s15 A15 n15 c15 v aA aW
    subst hF ha0 hL0
    simp only [PT] at jV eK ⊢
    have hHeld:=aO.out _ aA.out
    refine ryy [7,13] ?_
    refine .cons rfl (fun K hK=>?_) ?_
    go_simp
    go_at_call 95
    refine (fdivided_any r gv sd s14 Ad A14 nd cd n14 c14 v (PF.new dQ.out aA.out).1 (PIo.new dD.out aA.out) (Nat.le_trans (plim (PF.new dQ.out aA.out).1 aI.out.2.2.2.2.1) (by decide)) (Nat.le_trans (plim (PIo.new dD.out aA.out) aN.out.2.1.2) (by decide)) aN.out.2.1.1).mono ?_
    rintro e v50 ⟨s16,A16,n16,c16,rfl,hr16,hb⟩
    have kA:=hJ hb
    have rK:=hJ hr16
    clear hb hr16
    go_wp2_with fail
    have kB:=hJ (bt aA.out kA.out)
    have rL:=hJ (PIo.new aW.out kA.out)
    clear hHeld
    refine hK.out _ _ (aO.out _ kB.out) (fun hHeld=>?_)
    clear hK K
    try simp only [PT]
    exact wpAnyH_cast (by kernel_rfl) (jV s15 A15 n15 c15 s16 A16 n16 c16 v50 kB rL rK)
    refine .cons rfl (fun K hK=>?_) .nil
    go_simp
    have gH:=hJ ((Below.refl v.heap.size v).alloc (Nat.le_refl _) (.cells #[.bool false,.slice none 0 0] 33))
    have gI:=hJ (BX.lit v 33 #[.bool false,.slice none 0 0])
    obtain ⟨v51,hV⟩:=nmz (World.alloc v (.cells #[.bool false,.slice none 0 0] 33))
    obtain ⟨aG,hg⟩:=nmz (v.heap.size)
    rw [hV] at gH gI ⊢
    rw [hg] at gI ⊢
    have rM:=hJ (show v9.heap.size≤aG by rw [←hg]; exact aA.out.size)
    clear hV hg
    have kC:=hJ (bt aA.out gH.out)
    have rN:=hJ (PIo.new aW.out gH.out)
    clear hHeld
    refine hK.out _ _ (aO.out _ kC.out) (fun hHeld=>?_)
    clear hK K
    try simp only [PT]
    exact wpAnyH_cast (by kernel_rfl) (eK s15 A15 n15 c15 aG v51 kC rN gI rM)
   have kD:∀ (aG:Nat) (v:World),Hid (Below v9.heap.size v9 v)→Hid (BX 33 v aG #[.bool false,.slice none 0 0])→Hid (v9.heap.size≤aG)→F 9 (Array.setIfInBounds L0 13 true) (Act.put a0 (some 10) (.pointer (some ⟨aG,0,none⟩))) v:=by
    intro aG v aA bA bW
    subst hF ha0 hL0
    simp only [PT] at eK ⊢
    have hHeld:=aO.out _ aA.out
    refine ryy [3] ?_
    refine .cons rfl (fun K hK=>?_) .nil
    go_simp
    go_at_call 95
    refine (fdivided_any p gu sa s13 Aa A13 na ca n13 c13 v (PF.new dP.out aA.out).1 (PIo.new dB.out aA.out) (Nat.le_trans (plim (PF.new dP.out aA.out).1 aI.out.2.2.1) (by decide)) (Nat.le_trans (plim (PIo.new dB.out aA.out) aN.out.1.2) (by decide)) aN.out.1.1).mono ?_
    rintro e v52 ⟨s15,A15,n15,c15,rfl,hr15,hb⟩
    have kE:=hJ hb
    have rO:=hJ hr15
    clear hb hr15
    go_wp2_with fail
    have kF:=hJ (bt aA.out kE.out)
    have rP:=hJ (BX.new bA.out kE.out)
    clear hHeld
    refine hK.out _ _ (aO.out _ kF.out) (fun hHeld=>?_)
    clear hK K
    try simp only [PT]
    exact wpAnyH_cast (by kernel_rfl) (eK s15 A15 n15 c15 aG v52 kF rO rP bW)
   subst hF ha0 hL0
   simp only [PT] at jZ kD
   refine ryy [3,13] ?_
   refine .cons rfl (fun K hK=>?_) ?_
   go_simp
   go_at_call 95
   refine (fdivided_any p gu sa s13 Aa A13 na ca n13 c13 v12 (PF.new dP.out cE.out).1 (PIo.new dB.out cE.out) (Nat.le_trans (plim (PF.new dP.out cE.out).1 aI.out.2.2.1) (by decide)) (Nat.le_trans (plim (PIo.new dB.out cE.out) aN.out.1.2) (by decide)) aN.out.1.1).mono ?_
   rintro e v53 ⟨s15,A15,n15,c15,rfl,hr15,hb⟩
   have rQ:=hJ hb
   have rR:=hJ hr15
   clear hb hr15
   go_wp2_with fail
   have kG:=hJ (bt cE.out rQ.out)
   clear hHeld
   refine hK.out _ _ (aO.out _ kG.out) (fun hHeld=>?_)
   clear hK K
   try simp only [PT]
   exact wpAnyH_cast (by kernel_rfl) (jZ s15 A15 n15 c15 v53 kG rR)
   refine .cons rfl (fun K hK=>?_) .nil
   go_simp
   have kH:=hJ ((Below.refl v12.heap.size v12).alloc (Nat.le_refl _) (.cells #[.bool false,.slice none 0 0] 33))
   have gJ:=hJ (BX.lit v12 33 #[.bool false,.slice none 0 0])
   obtain ⟨v54,hV⟩:=nmz (World.alloc v12 (.cells #[.bool false,.slice none 0 0] 33))
   obtain ⟨aG,hg⟩:=nmz (v12.heap.size)
   rw [hV] at kH gJ ⊢
   rw [hg] at gJ ⊢
   have rS:=hJ (show v9.heap.size≤aG by rw [←hg]; exact cE.out.size)
   clear hV hg
   have kI:=hJ (bt cE.out kH.out)
   clear hHeld
   refine hK.out _ _ (aO.out _ kI.out) (fun hHeld=>?_)
   clear hK K
   try simp only [PT]
   exact wpAnyH_cast (by kernel_rfl) (kD aG v54 kI gJ rS)
  have eL:∀ (s13:Bool) (A13:Option Addr) (n13:Nat) (c13:Nat) (s14:Bool) (A14:Option Addr) (n14:Nat) (c14:Nat) (aD:Nat) (v:World),Hid (Below v4.heap.size v4 v)→Hid (PI v s13 A13 n13 c13 gu)→Hid (PI v s14 A14 n14 c14 gv)→Hid (BX 33 v aD #[.bool false,.slice none 0 0])→Hid (v4.heap.size≤aD)→F 3 (Array.setIfInBounds (Array.setIfInBounds (Array.setIfInBounds L0 3 true) 7 true) 8 true) (Act.put (Act.put (Act.put a0 (some 22) (.agg #[.bool s13,.slice A13 n13 c13])) (some 26) (.agg #[.bool s14,.slice A14 n14 c14])) (some 8) (.pointer (some ⟨aD,0,none⟩))) v:=by
   intro s13 A13 n13 c13 s14 A14 n14 c14 aD v aA aV cB aT bG
   subst hF ha0 hL0
   simp only [PT] at cM ⊢
   have hHeld:=aM.out _ aA.out
   refine ryy [9] ?_
   refine .cons rfl (fun K hK=>?_) .nil
   go_simp
   have dK:=hJ ((Below.refl v.heap.size v).alloc (Nat.le_refl _) (.cells #[.bool false,.slice none 0 0] 33))
   have gK:=hJ (BX.lit v 33 #[.bool false,.slice none 0 0])
   obtain ⟨v55,hV⟩:=nmz (World.alloc v (.cells #[.bool false,.slice none 0 0] 33))
   obtain ⟨aF,hg⟩:=nmz (v.heap.size)
   rw [hV] at dK gK ⊢
   rw [hg] at gK ⊢
   have rT:=hJ (show v4.heap.size≤aF by rw [←hg]; exact aA.out.size)
   have rU:=hJ (show aD≠aF by have:=aT.out.lt; rw [hg] at this; omega)
   clear hV hg
   have kJ:=hJ (bt aA.out dK.out)
   have rV:=hJ (PIo.new aV.out dK.out)
   have rW:=hJ (PIo.new cB.out dK.out)
   have rX:=hJ (BX.new aT.out dK.out)
   clear hHeld
   refine hK.out _ _ (aM.out _ kJ.out) (fun hHeld=>?_)
   clear hK K
   try simp only [PT]
   exact wpAnyH_cast (by kernel_rfl) (cM s13 A13 n13 c13 s14 A14 n14 c14 aD aF v55 kJ rV rW rX bG gK rT (hJ rU.out))
  have eM:∀ (s13:Bool) (A13:Option Addr) (n13:Nat) (c13:Nat) (s14:Bool) (A14:Option Addr) (n14:Nat) (c14:Nat) (aF:Nat) (v:World),Hid (Below v4.heap.size v4 v)→Hid (PI v s13 A13 n13 c13 gu)→Hid (PI v s14 A14 n14 c14 gv)→Hid (BX 33 v aF #[.bool false,.slice none 0 0])→Hid (v4.heap.size≤aF)→F 3 (Array.setIfInBounds (Array.setIfInBounds (Array.setIfInBounds L0 3 true) 7 true) 9 true) (Act.put (Act.put (Act.put a0 (some 22) (.agg #[.bool s13,.slice A13 n13 c13])) (some 26) (.agg #[.bool s14,.slice A14 n14 c14])) (some 9) (.pointer (some ⟨aF,0,none⟩))) v:=by
   intro s13 A13 n13 c13 s14 A14 n14 c14 aF v aA aV cB aZ bH
   subst hF ha0 hL0
   simp only [PT] at cM ⊢
   have hHeld:=aM.out _ aA.out
   refine ryy [8] ?_
   refine .cons rfl (fun K hK=>?_) .nil
   go_simp
   have dL:=hJ ((Below.refl v.heap.size v).alloc (Nat.le_refl _) (.cells #[.bool false,.slice none 0 0] 33))
   have gL:=hJ (BX.lit v 33 #[.bool false,.slice none 0 0])
   obtain ⟨v56,hV⟩:=nmz (World.alloc v (.cells #[.bool false,.slice none 0 0] 33))
   obtain ⟨aD,hg⟩:=nmz (v.heap.size)
   rw [hV] at dL gL ⊢
   rw [hg] at gL ⊢
   have rY:=hJ (show v4.heap.size≤aD by rw [←hg]; exact aA.out.size)
   have rZ:=hJ (show aF≠aD by have:=aZ.out.lt; rw [hg] at this; omega)
   clear hV hg
   have kK:=hJ (bt aA.out dL.out)
   have sA:=hJ (PIo.new aV.out dL.out)
   have sB:=hJ (PIo.new cB.out dL.out)
   have sC:=hJ (BX.new aZ.out dL.out)
   clear hHeld
   refine hK.out _ _ (aM.out _ kK.out) (fun hHeld=>?_)
   clear hK K
   try simp only [PT]
   exact wpAnyH_cast (by kernel_rfl) (cM s13 A13 n13 c13 s14 A14 n14 c14 aD aF v56 kK sA sB gL rY sC bH (hJ rZ.out.symm))
  have cR:∀ (s13:Bool) (A13:Option Addr) (n13:Nat) (c13:Nat) (aD:Nat) (aF:Nat) (v:World),Hid (Below v4.heap.size v4 v)→Hid (PI v s13 A13 n13 c13 gu)→Hid (BX 33 v aD #[.bool false,.slice none 0 0])→Hid (v4.heap.size≤aD)→Hid (BX 33 v aF #[.bool false,.slice none 0 0])→Hid (v4.heap.size≤aF)→Hid (aD≠aF)→F 3 (Array.setIfInBounds (Array.setIfInBounds (Array.setIfInBounds L0 3 true) 8 true) 9 true) (Act.put (Act.put (Act.put a0 (some 22) (.agg #[.bool s13,.slice A13 n13 c13])) (some 8) (.pointer (some ⟨aD,0,none⟩))) (some 9) (.pointer (some ⟨aF,0,none⟩))) v:=by
   intro s13 A13 n13 c13 aD aF v aA aV aT bG aZ bH cN
   subst hF ha0 hL0
   simp only [PT] at cM ⊢
   have hHeld:=aM.out _ aA.out
   refine ryy [7] ?_
   refine .cons rfl (fun K hK=>?_) .nil
   go_simp
   go_at_call 94
   refine (fcommon_any r q sd s11 Ad A11 nd cd n11 c11 v (PF.new bU.out aA.out).1 (PIo.new bR.out aA.out) (Nat.le_trans (plim (PF.new bU.out aA.out).1 aI.out.2.2.2.2.1) (by decide)) (Nat.le_trans (plim (PIo.new bR.out aA.out) aI.out.2.2.2.1) (by decide))).mono ?_
   rw [show ((Nat.gcd r.natAbs q.natAbs:Nat):Int)=gv from cJ.out]
   rintro e v57 ⟨s14,A14,n14,c14,rfl,hr14,hb⟩
   have eN:=hJ hb
   have sD:=hJ hr14
   clear hb hr14
   go_wp2_with fail
   have kL:=hJ (bt aA.out eN.out)
   have sE:=hJ (PIo.new aV.out eN.out)
   have sF:=hJ (BX.new aT.out eN.out)
   have sG:=hJ (BX.new aZ.out eN.out)
   clear hHeld
   refine hK.out _ _ (aM.out _ kL.out) (fun hHeld=>?_)
   clear hK K
   try simp only [PT]
   exact wpAnyH_cast (by kernel_rfl) (cM s13 A13 n13 c13 s14 A14 n14 c14 aD aF v57 kL sE sD sF bG sG bH (hJ cN.out))
  have kM:∀ (s13:Bool) (A13:Option Addr) (n13:Nat) (c13:Nat) (s14:Bool) (A14:Option Addr) (n14:Nat) (c14:Nat) (v:World),Hid (Below v4.heap.size v4 v)→Hid (PI v s13 A13 n13 c13 gu)→Hid (PI v s14 A14 n14 c14 gv)→F 4 (Array.setIfInBounds (Array.setIfInBounds L0 3 true) 7 true) (Act.put (Act.put a0 (some 22) (.agg #[.bool s13,.slice A13 n13 c13])) (some 26) (.agg #[.bool s14,.slice A14 n14 c14])) v:=by
   intro s13 A13 n13 c13 s14 A14 n14 c14 v aA aV cB
   subst hF ha0 hL0
   simp only [PT] at eL eM ⊢
   have hHeld:=aM.out _ aA.out
   refine ryy [8,9] ?_
   refine .cons rfl (fun K hK=>?_) ?_
   go_simp
   have eO:=hJ ((Below.refl v.heap.size v).alloc (Nat.le_refl _) (.cells #[.bool false,.slice none 0 0] 33))
   have gM:=hJ (BX.lit v 33 #[.bool false,.slice none 0 0])
   obtain ⟨v58,hV⟩:=nmz (World.alloc v (.cells #[.bool false,.slice none 0 0] 33))
   obtain ⟨aD,hg⟩:=nmz (v.heap.size)
   rw [hV] at eO gM ⊢
   rw [hg] at gM ⊢
   have sH:=hJ (show v4.heap.size≤aD by rw [←hg]; exact aA.out.size)
   clear hV hg
   have kN:=hJ (bt aA.out eO.out)
   have sI:=hJ (PIo.new aV.out eO.out)
   have sJ:=hJ (PIo.new cB.out eO.out)
   clear hHeld
   refine hK.out _ _ (aM.out _ kN.out) (fun hHeld=>?_)
   clear hK K
   try simp only [PT]
   exact wpAnyH_cast (by kernel_rfl) (eL s13 A13 n13 c13 s14 A14 n14 c14 aD v58 kN sI sJ gM sH)
   refine .cons rfl (fun K hK=>?_) .nil
   go_simp
   have eP:=hJ ((Below.refl v.heap.size v).alloc (Nat.le_refl _) (.cells #[.bool false,.slice none 0 0] 33))
   have gN:=hJ (BX.lit v 33 #[.bool false,.slice none 0 0])
   obtain ⟨v59,hV⟩:=nmz (World.alloc v (.cells #[.bool false,.slice none 0 0] 33))
   obtain ⟨aF,hg⟩:=nmz (v.heap.size)
   rw [hV] at eP gN ⊢
   rw [hg] at gN ⊢
   have sK:=hJ (show v4.heap.size≤aF by rw [←hg]; exact aA.out.size)
   clear hV hg
   have kO:=hJ (bt aA.out eP.out)
   have sL:=hJ (PIo.new aV.out eP.out)
   have sM:=hJ (PIo.new cB.out eP.out)
   clear hHeld
   refine hK.out _ _ (aM.out _ kO.out) (fun hHeld=>?_)
   clear hK K
   try simp only [PT]
   exact wpAnyH_cast (by kernel_rfl) (eM s13 A13 n13 c13 s14 A14 n14 c14 aF v59 kO sL sM gN sK)
  have eQ:∀ (s13:Bool) (A13:Option Addr) (n13:Nat) (c13:Nat) (aD:Nat) (v:World),Hid (Below v4.heap.size v4 v)→Hid (PI v s13 A13 n13 c13 gu)→Hid (BX 33 v aD #[.bool false,.slice none 0 0])→Hid (v4.heap.size≤aD)→F 4 (Array.setIfInBounds (Array.setIfInBounds L0 3 true) 8 true) (Act.put (Act.put a0 (some 22) (.agg #[.bool s13,.slice A13 n13 c13])) (some 8) (.pointer (some ⟨aD,0,none⟩))) v:=by
   intro s13 A13 n13 c13 aD v aA aV aT bG
   subst hF ha0 hL0
   simp only [PT] at eL cR ⊢
   have hHeld:=aM.out _ aA.out
   refine ryy [7,9] ?_
   refine .cons rfl (fun K hK=>?_) ?_
   go_simp
   go_at_call 94
   refine (fcommon_any r q sd s11 Ad A11 nd cd n11 c11 v (PF.new bU.out aA.out).1 (PIo.new bR.out aA.out) (Nat.le_trans (plim (PF.new bU.out aA.out).1 aI.out.2.2.2.2.1) (by decide)) (Nat.le_trans (plim (PIo.new bR.out aA.out) aI.out.2.2.2.1) (by decide))).mono ?_
   rw [show ((Nat.gcd r.natAbs q.natAbs:Nat):Int)=gv from cJ.out]
   rintro e v60 ⟨s14,A14,n14,c14,rfl,hr14,hb⟩
   have gO:=hJ hb
   have sN:=hJ hr14
   clear hb hr14
   go_wp2_with fail
   have kP:=hJ (bt aA.out gO.out)
   have sO:=hJ (PIo.new aV.out gO.out)
   have sP:=hJ (BX.new aT.out gO.out)
   clear hHeld
   refine hK.out _ _ (aM.out _ kP.out) (fun hHeld=>?_)
   clear hK K
   try simp only [PT]
   exact wpAnyH_cast (by kernel_rfl) (eL s13 A13 n13 c13 s14 A14 n14 c14 aD v60 kP sO sN sP bG)
   refine .cons rfl (fun K hK=>?_) .nil
   go_simp
   have eR:=hJ ((Below.refl v.heap.size v).alloc (Nat.le_refl _) (.cells #[.bool false,.slice none 0 0] 33))
   have gP:=hJ (BX.lit v 33 #[.bool false,.slice none 0 0])
   obtain ⟨v61,hV⟩:=nmz (World.alloc v (.cells #[.bool false,.slice none 0 0] 33))
   obtain ⟨aF,hg⟩:=nmz (v.heap.size)
   rw [hV] at eR gP ⊢
   rw [hg] at gP ⊢
   have sQ:=hJ (show v4.heap.size≤aF by rw [←hg]; exact aA.out.size)
   have sR:=hJ (show aD≠aF by have:=aT.out.lt; rw [hg] at this; omega)
   clear hV hg
   have kQ:=hJ (bt aA.out eR.out)
   have sS:=hJ (PIo.new aV.out eR.out)
   have sT:=hJ (BX.new aT.out eR.out)
   clear hHeld
   refine hK.out _ _ (aM.out _ kQ.out) (fun hHeld=>?_)
   clear hK K
   try simp only [PT]
   exact wpAnyH_cast (by kernel_rfl) (cR s13 A13 n13 c13 aD aF v61 kQ sS sT bG gP sQ (hJ sR.out))
  have eS:∀ (s13:Bool) (A13:Option Addr) (n13:Nat) (c13:Nat) (aF:Nat) (v:World),Hid (Below v4.heap.size v4 v)→Hid (PI v s13 A13 n13 c13 gu)→Hid (BX 33 v aF #[.bool false,.slice none 0 0])→Hid (v4.heap.size≤aF)→F 4 (Array.setIfInBounds (Array.setIfInBounds L0 3 true) 9 true) (Act.put (Act.put a0 (some 22) (.agg #[.bool s13,.slice A13 n13 c13])) (some 9) (.pointer (some ⟨aF,0,none⟩))) v:=by
   intro s13 A13 n13 c13 aF v aA aV aZ bH
   subst hF ha0 hL0
   simp only [PT] at eM cR ⊢
   have hHeld:=aM.out _ aA.out
   refine ryy [7,8] ?_
   refine .cons rfl (fun K hK=>?_) ?_
   go_simp
   go_at_call 94
   refine (fcommon_any r q sd s11 Ad A11 nd cd n11 c11 v (PF.new bU.out aA.out).1 (PIo.new bR.out aA.out) (Nat.le_trans (plim (PF.new bU.out aA.out).1 aI.out.2.2.2.2.1) (by decide)) (Nat.le_trans (plim (PIo.new bR.out aA.out) aI.out.2.2.2.1) (by decide))).mono ?_
   rw [show ((Nat.gcd r.natAbs q.natAbs:Nat):Int)=gv from cJ.out]
   rintro e v62 ⟨s14,A14,n14,c14,rfl,hr14,hb⟩
   have gQ:=hJ hb
   have sU:=hJ hr14
   clear hb hr14
   go_wp2_with fail
   have kR:=hJ (bt aA.out gQ.out)
   have sV:=hJ (PIo.new aV.out gQ.out)
   have sW:=hJ (BX.new aZ.out gQ.out)
   clear hHeld
   refine hK.out _ _ (aM.out _ kR.out) (fun hHeld=>?_)
   clear hK K
   try simp only [PT]
   exact wpAnyH_cast (by kernel_rfl) (eM s13 A13 n13 c13 s14 A14 n14 c14 aF v62 kR sV sU sW bH)
   refine .cons rfl (fun K hK=>?_) .nil
   go_simp
   have eT:=hJ ((Below.refl v.heap.size v).alloc (Nat.le_refl _) (.cells #[.bool false,.slice none 0 0] 33))
   have gR:=hJ (BX.lit v 33 #[.bool false,.slice none 0 0])
   obtain ⟨v63,hV⟩:=nmz (World.alloc v (.cells #[.bool false,.slice none 0 0] 33))
   obtain ⟨aD,hg⟩:=nmz (v.heap.size)
   rw [hV] at eT gR ⊢
   rw [hg] at gR ⊢
   have sX:=hJ (show v4.heap.size≤aD by rw [←hg]; exact aA.out.size)
   have sY:=hJ (show aF≠aD by have:=aZ.out.lt; rw [hg] at this; omega)
   clear hV hg
   have kS:=hJ (bt aA.out eT.out)
   have sZ:=hJ (PIo.new aV.out eT.out)
   have tA:=hJ (BX.new aZ.out eT.out)
   clear hHeld
   refine hK.out _ _ (aM.out _ kS.out) (fun hHeld=>?_)
   clear hK K
   try simp only [PT]
   exact wpAnyH_cast (by kernel_rfl) (cR s13 A13 n13 c13 aD aF v63 kS sZ gR sX tA bH (hJ sY.out.symm))
  have eU:∀ (aD:Nat) (aF:Nat) (v:World),Hid (Below v4.heap.size v4 v)→Hid (BX 33 v aD #[.bool false,.slice none 0 0])→Hid (v4.heap.size≤aD)→Hid (BX 33 v aF #[.bool false,.slice none 0 0])→Hid (v4.heap.size≤aF)→Hid (aD≠aF)→F 4 (Array.setIfInBounds (Array.setIfInBounds L0 8 true) 9 true) (Act.put (Act.put a0 (some 8) (.pointer (some ⟨aD,0,none⟩))) (some 9) (.pointer (some ⟨aF,0,none⟩))) v:=by
   intro aD aF v aA aT bG aZ bH cN
   subst hF ha0 hL0
   simp only [PT] at cR ⊢
   have hHeld:=aM.out _ aA.out
   refine ryy [3] ?_
   refine .cons rfl (fun K hK=>?_) .nil
   go_simp
   go_at_call 94
   refine (fcommon_any p s sa s12 Aa A12 na ca n12 c12 v (PF.new bT.out aA.out).1 (PIo.new bS.out aA.out) (Nat.le_trans (plim (PF.new bT.out aA.out).1 aI.out.2.2.1) (by decide)) (Nat.le_trans (plim (PIo.new bS.out aA.out) aI.out.2.2.2.2.2) (by decide))).mono ?_
   rw [show ((Nat.gcd p.natAbs s.natAbs:Nat):Int)=gu from HU.out]
   rintro e v64 ⟨s13,A13,n13,c13,rfl,hr13,hb⟩
   have gS:=hJ hb
   have tB:=hJ hr13
   clear hb hr13
   go_wp2_with fail
   have kT:=hJ (bt aA.out gS.out)
   have tC:=hJ (BX.new aT.out gS.out)
   have tD:=hJ (BX.new aZ.out gS.out)
   clear hHeld
   refine hK.out _ _ (aM.out _ kT.out) (fun hHeld=>?_)
   clear hK K
   try simp only [PT]
   exact wpAnyH_cast (by kernel_rfl) (cR s13 A13 n13 c13 aD aF v64 kT tB tC bG tD bH (hJ cN.out))
  have kU:∀ (s13:Bool) (A13:Option Addr) (n13:Nat) (c13:Nat) (v:World),Hid (Below v4.heap.size v4 v)→Hid (PI v s13 A13 n13 c13 gu)→F 5 (Array.setIfInBounds L0 3 true) (Act.put a0 (some 22) (.agg #[.bool s13,.slice A13 n13 c13])) v:=by
   intro s13 A13 n13 c13 v aA aV
   subst hF ha0 hL0
   simp only [PT] at kM eQ eS ⊢
   have hHeld:=aM.out _ aA.out
   refine ryy [7,8,9] ?_
   refine .cons rfl (fun K hK=>?_) ?_
   go_simp
   go_at_call 94
   refine (fcommon_any r q sd s11 Ad A11 nd cd n11 c11 v (PF.new bU.out aA.out).1 (PIo.new bR.out aA.out) (Nat.le_trans (plim (PF.new bU.out aA.out).1 aI.out.2.2.2.2.1) (by decide)) (Nat.le_trans (plim (PIo.new bR.out aA.out) aI.out.2.2.2.1) (by decide))).mono ?_
   rw [show ((Nat.gcd r.natAbs q.natAbs:Nat):Int)=gv from cJ.out]
   rintro e v65 ⟨s14,A14,n14,c14,rfl,hr14,hb⟩
   have kV:=hJ hb
   have tE:=hJ hr14
   clear hb hr14
   go_wp2_with fail
   have kW:=hJ (bt aA.out kV.out)
   have tF:=hJ (PIo.new aV.out kV.out)
   clear hHeld
   refine hK.out _ _ (aM.out _ kW.out) (fun hHeld=>?_)
   clear hK K
   try simp only [PT]
   exact wpAnyH_cast (by kernel_rfl) (kM s13 A13 n13 c13 s14 A14 n14 c14 v65 kW tF tE)
   refine .cons rfl (fun K hK=>?_) ?_
   go_simp
   have gT:=hJ ((Below.refl v.heap.size v).alloc (Nat.le_refl _) (.cells #[.bool false,.slice none 0 0] 33))
   have gU:=hJ (BX.lit v 33 #[.bool false,.slice none 0 0])
   obtain ⟨v66,hV⟩:=nmz (World.alloc v (.cells #[.bool false,.slice none 0 0] 33))
   obtain ⟨aD,hg⟩:=nmz (v.heap.size)
   rw [hV] at gT gU ⊢
   rw [hg] at gU ⊢
   have tG:=hJ (show v4.heap.size≤aD by rw [←hg]; exact aA.out.size)
   clear hV hg
   have kX:=hJ (bt aA.out gT.out)
   have tH:=hJ (PIo.new aV.out gT.out)
   clear hHeld
   refine hK.out _ _ (aM.out _ kX.out) (fun hHeld=>?_)
   clear hK K
   try simp only [PT]
   exact wpAnyH_cast (by kernel_rfl) (eQ s13 A13 n13 c13 aD v66 kX tH gU tG)
   refine .cons rfl (fun K hK=>?_) .nil
   go_simp
   have gV:=hJ ((Below.refl v.heap.size v).alloc (Nat.le_refl _) (.cells #[.bool false,.slice none 0 0] 33))
   have gW:=hJ (BX.lit v 33 #[.bool false,.slice none 0 0])
   obtain ⟨v67,hV⟩:=nmz (World.alloc v (.cells #[.bool false,.slice none 0 0] 33))
   obtain ⟨aF,hg⟩:=nmz (v.heap.size)
   rw [hV] at gV gW ⊢
   rw [hg] at gW ⊢
   have tI:=hJ (show v4.heap.size≤aF by rw [←hg]; exact aA.out.size)
   clear hV hg
   have kY:=hJ (bt aA.out gV.out)
   have tJ:=hJ (PIo.new aV.out gV.out)
   clear hHeld
   refine hK.out _ _ (aM.out _ kY.out) (fun hHeld=>?_)
   clear hK K
   try simp only [PT]
   exact wpAnyH_cast (by kernel_rfl) (eS s13 A13 n13 c13 aF v67 kY tJ gW tI)
  have kZ:∀ (aD:Nat) (v:World),Hid (Below v4.heap.size v4 v)→Hid (BX 33 v aD #[.bool false,.slice none 0 0])→Hid (v4.heap.size≤aD)→F 5 (Array.setIfInBounds L0 8 true) (Act.put a0 (some 8) (.pointer (some ⟨aD,0,none⟩))) v:=by
   intro aD v aA aT bG
   subst hF ha0 hL0
   simp only [PT] at eQ eU ⊢
   have hHeld:=aM.out _ aA.out
   refine ryy [3,9] ?_
   refine .cons rfl (fun K hK=>?_) ?_
   go_simp
   go_at_call 94
   refine (fcommon_any p s sa s12 Aa A12 na ca n12 c12 v (PF.new bT.out aA.out).1 (PIo.new bS.out aA.out) (Nat.le_trans (plim (PF.new bT.out aA.out).1 aI.out.2.2.1) (by decide)) (Nat.le_trans (plim (PIo.new bS.out aA.out) aI.out.2.2.2.2.2) (by decide))).mono ?_
   rw [show ((Nat.gcd p.natAbs s.natAbs:Nat):Int)=gu from HU.out]
   rintro e v68 ⟨s13,A13,n13,c13,rfl,hr13,hb⟩
   have lA:=hJ hb
   have tK:=hJ hr13
   clear hb hr13
   go_wp2_with fail
   have lB:=hJ (bt aA.out lA.out)
   have tL:=hJ (BX.new aT.out lA.out)
   clear hHeld
   refine hK.out _ _ (aM.out _ lB.out) (fun hHeld=>?_)
   clear hK K
   try simp only [PT]
   exact wpAnyH_cast (by kernel_rfl) (eQ s13 A13 n13 c13 aD v68 lB tK tL bG)
   refine .cons rfl (fun K hK=>?_) .nil
   go_simp
   have gX:=hJ ((Below.refl v.heap.size v).alloc (Nat.le_refl _) (.cells #[.bool false,.slice none 0 0] 33))
   have gY:=hJ (BX.lit v 33 #[.bool false,.slice none 0 0])
   obtain ⟨v69,hV⟩:=nmz (World.alloc v (.cells #[.bool false,.slice none 0 0] 33))
   obtain ⟨aF,hg⟩:=nmz (v.heap.size)
   rw [hV] at gX gY ⊢
   rw [hg] at gY ⊢
   have tM:=hJ (show v4.heap.size≤aF by rw [←hg]; exact aA.out.size)
   have tN:=hJ (show aD≠aF by have:=aT.out.lt; rw [hg] at this; omega)
   clear hV hg
   have lC:=hJ (bt aA.out gX.out)
   have tO:=hJ (BX.new aT.out gX.out)
   clear hHeld
   refine hK.out _ _ (aM.out _ lC.out) (fun hHeld=>?_)
   clear hK K
   try simp only [PT]
   exact wpAnyH_cast (by kernel_rfl) (eU aD aF v69 lC tO bG gY tM (hJ tN.out))
  have lD:∀ (aF:Nat) (v:World),Hid (Below v4.heap.size v4 v)→Hid (BX 33 v aF #[.bool false,.slice none 0 0])→Hid (v4.heap.size≤aF)→F 5 (Array.setIfInBounds L0 9 true) (Act.put a0 (some 9) (.pointer (some ⟨aF,0,none⟩))) v:=by
   intro aF v aA aZ bH
   subst hF ha0 hL0
   simp only [PT] at eS eU ⊢
   have hHeld:=aM.out _ aA.out
   refine ryy [3,8] ?_
   refine .cons rfl (fun K hK=>?_) ?_
   go_simp
   go_at_call 94
   refine (fcommon_any p s sa s12 Aa A12 na ca n12 c12 v (PF.new bT.out aA.out).1 (PIo.new bS.out aA.out) (Nat.le_trans (plim (PF.new bT.out aA.out).1 aI.out.2.2.1) (by decide)) (Nat.le_trans (plim (PIo.new bS.out aA.out) aI.out.2.2.2.2.2) (by decide))).mono ?_
   rw [show ((Nat.gcd p.natAbs s.natAbs:Nat):Int)=gu from HU.out]
   rintro e v70 ⟨s13,A13,n13,c13,rfl,hr13,hb⟩
   have lE:=hJ hb
   have tP:=hJ hr13
   clear hb hr13
   go_wp2_with fail
   have lF:=hJ (bt aA.out lE.out)
   have tQ:=hJ (BX.new aZ.out lE.out)
   clear hHeld
   refine hK.out _ _ (aM.out _ lF.out) (fun hHeld=>?_)
   clear hK K
   try simp only [PT]
   exact wpAnyH_cast (by kernel_rfl) (eS s13 A13 n13 c13 aF v70 lF tP tQ bH)
   refine .cons rfl (fun K hK=>?_) .nil
   go_simp
   have gZ:=hJ ((Below.refl v.heap.size v).alloc (Nat.le_refl _) (.cells #[.bool false,.slice none 0 0] 33))
   have hA:=hJ (BX.lit v 33 #[.bool false,.slice none 0 0])
   obtain ⟨v71,hV⟩:=nmz (World.alloc v (.cells #[.bool false,.slice none 0 0] 33))
   obtain ⟨aD,hg⟩:=nmz (v.heap.size)
   rw [hV] at gZ hA ⊢
   rw [hg] at hA ⊢
   have tR:=hJ (show v4.heap.size≤aD by rw [←hg]; exact aA.out.size)
   have tS:=hJ (show aF≠aD by have:=aZ.out.lt; rw [hg] at this; omega)
   clear hV hg
   have lG:=hJ (bt aA.out gZ.out)
   have tT:=hJ (BX.new aZ.out gZ.out)
   clear hHeld
   refine hK.out _ _ (aM.out _ lG.out) (fun hHeld=>?_)
   clear hK K
   try simp only [PT]
   exact wpAnyH_cast (by kernel_rfl) (eU aD aF v71 lG hA tR tT bH (hJ tS.out.symm))
  subst hF ha0 hL0
  simp only [PT] at kU kZ lD
  refine ryy [3,8,9] ?_
  refine .cons rfl (fun K hK=>?_) ?_
  go_simp
  go_at_call 94
  refine (fcommon_any p s sa s12 Aa A12 na ca n12 c12 v7 (PF.new bT.out bV.out).1 (PIo.new bS.out bV.out) (Nat.le_trans (plim (PF.new bT.out bV.out).1 aI.out.2.2.1) (by decide)) (Nat.le_trans (plim (PIo.new bS.out bV.out) aI.out.2.2.2.2.2) (by decide))).mono ?_
  rw [show ((Nat.gcd p.natAbs s.natAbs:Nat):Int)=gu from HU.out]
  rintro e v72 ⟨s13,A13,n13,c13,rfl,hr13,hb⟩
  have tU:=hJ hb
  have tV:=hJ hr13
  clear hb hr13
  go_wp2_with fail
  have lH:=hJ (bt bV.out tU.out)
  clear hHeld
  refine hK.out _ _ (aM.out _ lH.out) (fun hHeld=>?_)
  clear hK K
  try simp only [PT]
  exact wpAnyH_cast (by kernel_rfl) (kU s13 A13 n13 c13 v72 lH tV)
  refine .cons rfl (fun K hK=>?_) ?_
  go_simp
  have lI:=hJ ((Below.refl v7.heap.size v7).alloc (Nat.le_refl _) (.cells #[.bool false,.slice none 0 0] 33))
  have hB:=hJ (BX.lit v7 33 #[.bool false,.slice none 0 0])
  obtain ⟨v73,hV⟩:=nmz (World.alloc v7 (.cells #[.bool false,.slice none 0 0] 33))
  obtain ⟨aD,hg⟩:=nmz (v7.heap.size)
  rw [hV] at lI hB ⊢
  rw [hg] at hB ⊢
  have tW:=hJ (show v4.heap.size≤aD by rw [←hg]; exact bV.out.size)
  clear hV hg
  have lJ:=hJ (bt bV.out lI.out)
  clear hHeld
  refine hK.out _ _ (aM.out _ lJ.out) (fun hHeld=>?_)
  clear hK K
  try simp only [PT]
  exact wpAnyH_cast (by kernel_rfl) (kZ aD v73 lJ hB tW)
  refine .cons rfl (fun K hK=>?_) .nil
  go_simp
  have lK:=hJ ((Below.refl v7.heap.size v7).alloc (Nat.le_refl _) (.cells #[.bool false,.slice none 0 0] 33))
  have hC:=hJ (BX.lit v7 33 #[.bool false,.slice none 0 0])
  obtain ⟨v74,hV⟩:=nmz (World.alloc v7 (.cells #[.bool false,.slice none 0 0] 33))
  obtain ⟨aF,hg⟩:=nmz (v7.heap.size)
  rw [hV] at lK hC ⊢
  rw [hg] at hC ⊢
  have tX:=hJ (show v4.heap.size≤aF by rw [←hg]; exact bV.out.size)
  clear hV hg
  have lL:=hJ (bt bV.out lK.out)
  clear hHeld
  refine hK.out _ _ (aM.out _ lL.out) (fun hHeld=>?_)
  clear hK K
  try simp only [PT]
  exact wpAnyH_cast (by kernel_rfl) (lD aF v74 lL hC tX)
 have eV:∀ (s11:Bool) (A11:Option Addr) (n11:Nat) (c11:Nat) (s12:Bool) (A12:Option Addr) (n12:Nat) (c12:Nat) (aB:Nat) (v:World),Hid (Below x1.heap.size x1 v)→Hid (PI v s11 A11 n11 c11 q)→Hid (PI v s12 A12 n12 c12 s)→Hid (BX 33 v aB #[.bool false,.slice none 0 0])→Hid (x1.heap.size≤aB)→F 3 (Array.setIfInBounds (Array.setIfInBounds (Array.setIfInBounds L0 1 true) 3 true) 4 true) (Act.put (Act.put (Act.put a0 (some 16) (.agg #[.bool s11,.slice A11 n11 c11])) (some 18) (.agg #[.bool s12,.slice A12 n12 c12])) (some 6) (.pointer (some ⟨aB,0,none⟩))) v:=by
  intro s11 A11 n11 c11 s12 A12 n12 c12 aB v aA aU bZ aS bE
  subst hF ha0 hL0
  simp only [PT] at cK ⊢
  have hHeld:=aL.out _ aA.out
  refine ryy [5] ?_
  refine .cons rfl (fun K hK=>?_) .nil
  go_simp
  have dM:=hJ ((Below.refl v.heap.size v).alloc (Nat.le_refl _) (.cells #[.bool false,.slice none 0 0] 33))
  have hD:=hJ (BX.lit v 33 #[.bool false,.slice none 0 0])
  obtain ⟨v75,hV⟩:=nmz (World.alloc v (.cells #[.bool false,.slice none 0 0] 33))
  obtain ⟨aC,hg⟩:=nmz (v.heap.size)
  rw [hV] at dM hD ⊢
  rw [hg] at hD ⊢
  have tY:=hJ (show x1.heap.size≤aC by rw [←hg]; exact aA.out.size)
  have tZ:=hJ (show aB≠aC by have:=aS.out.lt; rw [hg] at this; omega)
  clear hV hg
  have lM:=hJ (bt aA.out dM.out)
  have uA:=hJ (PIo.new aU.out dM.out)
  have uB:=hJ (PIo.new bZ.out dM.out)
  have uC:=hJ (BX.new aS.out dM.out)
  clear hHeld
  refine hK.out _ _ (aL.out _ lM.out) (fun hHeld=>?_)
  clear hK K
  try simp only [PT]
  exact wpAnyH_cast (by kernel_rfl) (cK s11 A11 n11 c11 s12 A12 n12 c12 aB aC v75 lM uA uB uC bE hD tY (hJ tZ.out))
 have eW:∀ (s11:Bool) (A11:Option Addr) (n11:Nat) (c11:Nat) (s12:Bool) (A12:Option Addr) (n12:Nat) (c12:Nat) (aC:Nat) (v:World),Hid (Below x1.heap.size x1 v)→Hid (PI v s11 A11 n11 c11 q)→Hid (PI v s12 A12 n12 c12 s)→Hid (BX 33 v aC #[.bool false,.slice none 0 0])→Hid (x1.heap.size≤aC)→F 3 (Array.setIfInBounds (Array.setIfInBounds (Array.setIfInBounds L0 1 true) 3 true) 5 true) (Act.put (Act.put (Act.put a0 (some 16) (.agg #[.bool s11,.slice A11 n11 c11])) (some 18) (.agg #[.bool s12,.slice A12 n12 c12])) (some 7) (.pointer (some ⟨aC,0,none⟩))) v:=by
  intro s11 A11 n11 c11 s12 A12 n12 c12 aC v aA aU bZ aY bF
  subst hF ha0 hL0
  simp only [PT] at cK ⊢
  have hHeld:=aL.out _ aA.out
  refine ryy [4] ?_
  refine .cons rfl (fun K hK=>?_) .nil
  go_simp
  have dN:=hJ ((Below.refl v.heap.size v).alloc (Nat.le_refl _) (.cells #[.bool false,.slice none 0 0] 33))
  have hE:=hJ (BX.lit v 33 #[.bool false,.slice none 0 0])
  obtain ⟨v76,hV⟩:=nmz (World.alloc v (.cells #[.bool false,.slice none 0 0] 33))
  obtain ⟨aB,hg⟩:=nmz (v.heap.size)
  rw [hV] at dN hE ⊢
  rw [hg] at hE ⊢
  have uD:=hJ (show x1.heap.size≤aB by rw [←hg]; exact aA.out.size)
  have uE:=hJ (show aC≠aB by have:=aY.out.lt; rw [hg] at this; omega)
  clear hV hg
  have lN:=hJ (bt aA.out dN.out)
  have uF:=hJ (PIo.new aU.out dN.out)
  have uG:=hJ (PIo.new bZ.out dN.out)
  have uH:=hJ (BX.new aY.out dN.out)
  clear hHeld
  refine hK.out _ _ (aL.out _ lN.out) (fun hHeld=>?_)
  clear hK K
  try simp only [PT]
  exact wpAnyH_cast (by kernel_rfl) (cK s11 A11 n11 c11 s12 A12 n12 c12 aB aC v76 lN uF uG hE uD uH bF (hJ uE.out.symm))
 have cS:∀ (s11:Bool) (A11:Option Addr) (n11:Nat) (c11:Nat) (aB:Nat) (aC:Nat) (v:World),Hid (Below x1.heap.size x1 v)→Hid (PI v s11 A11 n11 c11 q)→Hid (BX 33 v aB #[.bool false,.slice none 0 0])→Hid (x1.heap.size≤aB)→Hid (BX 33 v aC #[.bool false,.slice none 0 0])→Hid (x1.heap.size≤aC)→Hid (aB≠aC)→F 3 (Array.setIfInBounds (Array.setIfInBounds (Array.setIfInBounds L0 1 true) 4 true) 5 true) (Act.put (Act.put (Act.put a0 (some 16) (.agg #[.bool s11,.slice A11 n11 c11])) (some 6) (.pointer (some ⟨aB,0,none⟩))) (some 7) (.pointer (some ⟨aC,0,none⟩))) v:=by
  intro s11 A11 n11 c11 aB aC v aA aU aS bE aY bF cL
  subst hF ha0 hL0
  simp only [PT] at cK ⊢
  have hHeld:=aL.out _ aA.out
  refine ryy [3] ?_
  refine .cons rfl (fun K hK=>?_) .nil
  go_simp
  go_at_call 90
  refine (den_any r s sd se Ad Ae nd cd ne ce v (PF.new bP.out aA.out) (Nat.le_trans (plim (PF.new bP.out aA.out).2 (dn_lim aI.out.2.2.2.2.2)) (by decide)) aI.out.2.1).mono ?_
  rintro e v77 ⟨s12,A12,n12,c12,rfl,hr12,hb⟩
  have eX:=hJ hb
  have uI:=hJ hr12
  clear hb hr12
  go_wp2_with fail
  have lO:=hJ (bt aA.out eX.out)
  have uJ:=hJ (PIo.new aU.out eX.out)
  have uK:=hJ (BX.new aS.out eX.out)
  have uL:=hJ (BX.new aY.out eX.out)
  clear hHeld
  refine hK.out _ _ (aL.out _ lO.out) (fun hHeld=>?_)
  clear hK K
  try simp only [PT]
  exact wpAnyH_cast (by kernel_rfl) (cK s11 A11 n11 c11 s12 A12 n12 c12 aB aC v77 lO uJ uI uK bE uL bF (hJ cL.out))
 have lP:∀ (s11:Bool) (A11:Option Addr) (n11:Nat) (c11:Nat) (s12:Bool) (A12:Option Addr) (n12:Nat) (c12:Nat) (v:World),Hid (Below x1.heap.size x1 v)→Hid (PI v s11 A11 n11 c11 q)→Hid (PI v s12 A12 n12 c12 s)→F 4 (Array.setIfInBounds (Array.setIfInBounds L0 1 true) 3 true) (Act.put (Act.put a0 (some 16) (.agg #[.bool s11,.slice A11 n11 c11])) (some 18) (.agg #[.bool s12,.slice A12 n12 c12])) v:=by
  intro s11 A11 n11 c11 s12 A12 n12 c12 v aA aU bZ
  subst hF ha0 hL0
  simp only [PT] at eV eW ⊢
  have hHeld:=aL.out _ aA.out
  refine ryy [4,5] ?_
  refine .cons rfl (fun K hK=>?_) ?_
  go_simp
  have eY:=hJ ((Below.refl v.heap.size v).alloc (Nat.le_refl _) (.cells #[.bool false,.slice none 0 0] 33))
  have hG:=hJ (BX.lit v 33 #[.bool false,.slice none 0 0])
  obtain ⟨v78,hV⟩:=nmz (World.alloc v (.cells #[.bool false,.slice none 0 0] 33))
  obtain ⟨aB,hg⟩:=nmz (v.heap.size)
  rw [hV] at eY hG ⊢
  rw [hg] at hG ⊢
  have uM:=hJ (show x1.heap.size≤aB by rw [←hg]; exact aA.out.size)
  clear hV hg
  have lQ:=hJ (bt aA.out eY.out)
  have uN:=hJ (PIo.new aU.out eY.out)
  have uO:=hJ (PIo.new bZ.out eY.out)
  clear hHeld
  refine hK.out _ _ (aL.out _ lQ.out) (fun hHeld=>?_)
  clear hK K
  try simp only [PT]
  exact wpAnyH_cast (by kernel_rfl) (eV s11 A11 n11 c11 s12 A12 n12 c12 aB v78 lQ uN uO hG uM)
  refine .cons rfl (fun K hK=>?_) .nil
  go_simp
  have eZ:=hJ ((Below.refl v.heap.size v).alloc (Nat.le_refl _) (.cells #[.bool false,.slice none 0 0] 33))
  have hH:=hJ (BX.lit v 33 #[.bool false,.slice none 0 0])
  obtain ⟨v79,hV⟩:=nmz (World.alloc v (.cells #[.bool false,.slice none 0 0] 33))
  obtain ⟨aC,hg⟩:=nmz (v.heap.size)
  rw [hV] at eZ hH ⊢
  rw [hg] at hH ⊢
  have uP:=hJ (show x1.heap.size≤aC by rw [←hg]; exact aA.out.size)
  clear hV hg
  have lR:=hJ (bt aA.out eZ.out)
  have uQ:=hJ (PIo.new aU.out eZ.out)
  have uR:=hJ (PIo.new bZ.out eZ.out)
  clear hHeld
  refine hK.out _ _ (aL.out _ lR.out) (fun hHeld=>?_)
  clear hK K
  try simp only [PT]
  exact wpAnyH_cast (by kernel_rfl) (eW s11 A11 n11 c11 s12 A12 n12 c12 aC v79 lR uQ uR hH uP)
 have fA:∀ (s11:Bool) (A11:Option Addr) (n11:Nat) (c11:Nat) (aB:Nat) (v:World),Hid (Below x1.heap.size x1 v)→Hid (PI v s11 A11 n11 c11 q)→Hid (BX 33 v aB #[.bool false,.slice none 0 0])→Hid (x1.heap.size≤aB)→F 4 (Array.setIfInBounds (Array.setIfInBounds L0 1 true) 4 true) (Act.put (Act.put a0 (some 16) (.agg #[.bool s11,.slice A11 n11 c11])) (some 6) (.pointer (some ⟨aB,0,none⟩))) v:=by
  intro s11 A11 n11 c11 aB v aA aU aS bE
  subst hF ha0 hL0
  simp only [PT] at eV cS ⊢
  have hHeld:=aL.out _ aA.out
  refine ryy [3,5] ?_
  refine .cons rfl (fun K hK=>?_) ?_
  go_simp
  go_at_call 90
  refine (den_any r s sd se Ad Ae nd cd ne ce v (PF.new bP.out aA.out) (Nat.le_trans (plim (PF.new bP.out aA.out).2 (dn_lim aI.out.2.2.2.2.2)) (by decide)) aI.out.2.1).mono ?_
  rintro e v80 ⟨s12,A12,n12,c12,rfl,hr12,hb⟩
  have hI:=hJ hb
  have uS:=hJ hr12
  clear hb hr12
  go_wp2_with fail
  have lS:=hJ (bt aA.out hI.out)
  have uT:=hJ (PIo.new aU.out hI.out)
  have uU:=hJ (BX.new aS.out hI.out)
  clear hHeld
  refine hK.out _ _ (aL.out _ lS.out) (fun hHeld=>?_)
  clear hK K
  try simp only [PT]
  exact wpAnyH_cast (by kernel_rfl) (eV s11 A11 n11 c11 s12 A12 n12 c12 aB v80 lS uT uS uU bE)
  refine .cons rfl (fun K hK=>?_) .nil
  go_simp
  have fB:=hJ ((Below.refl v.heap.size v).alloc (Nat.le_refl _) (.cells #[.bool false,.slice none 0 0] 33))
  have hL:=hJ (BX.lit v 33 #[.bool false,.slice none 0 0])
  obtain ⟨v81,hV⟩:=nmz (World.alloc v (.cells #[.bool false,.slice none 0 0] 33))
  obtain ⟨aC,hg⟩:=nmz (v.heap.size)
  rw [hV] at fB hL ⊢
  rw [hg] at hL ⊢
  have uV:=hJ (show x1.heap.size≤aC by rw [←hg]; exact aA.out.size)
  have uW:=hJ (show aB≠aC by have:=aS.out.lt; rw [hg] at this; omega)
  clear hV hg
  have lT:=hJ (bt aA.out fB.out)
  have uX:=hJ (PIo.new aU.out fB.out)
  have uY:=hJ (BX.new aS.out fB.out)
  clear hHeld
  refine hK.out _ _ (aL.out _ lT.out) (fun hHeld=>?_)
  clear hK K
  try simp only [PT]
  exact wpAnyH_cast (by kernel_rfl) (cS s11 A11 n11 c11 aB aC v81 lT uX uY bE hL uV (hJ uW.out))
 have fC:∀ (s11:Bool) (A11:Option Addr) (n11:Nat) (c11:Nat) (aC:Nat) (v:World),Hid (Below x1.heap.size x1 v)→Hid (PI v s11 A11 n11 c11 q)→Hid (BX 33 v aC #[.bool false,.slice none 0 0])→Hid (x1.heap.size≤aC)→F 4 (Array.setIfInBounds (Array.setIfInBounds L0 1 true) 5 true) (Act.put (Act.put a0 (some 16) (.agg #[.bool s11,.slice A11 n11 c11])) (some 7) (.pointer (some ⟨aC,0,none⟩))) v:=by
  intro s11 A11 n11 c11 aC v aA aU aY bF
  subst hF ha0 hL0
  simp only [PT] at eW cS ⊢
  have hHeld:=aL.out _ aA.out
  refine ryy [3,4] ?_
  refine .cons rfl (fun K hK=>?_) ?_
  go_simp
  go_at_call 90
  refine (den_any r s sd se Ad Ae nd cd ne ce v (PF.new bP.out aA.out) (Nat.le_trans (plim (PF.new bP.out aA.out).2 (dn_lim aI.out.2.2.2.2.2)) (by decide)) aI.out.2.1).mono ?_
  rintro e v82 ⟨s12,A12,n12,c12,rfl,hr12,hb⟩
  have hM:=hJ hb
  have uZ:=hJ hr12
  clear hb hr12
  go_wp2_with fail
  have lU:=hJ (bt aA.out hM.out)
  have vA:=hJ (PIo.new aU.out hM.out)
  have vB:=hJ (BX.new aY.out hM.out)
  clear hHeld
  refine hK.out _ _ (aL.out _ lU.out) (fun hHeld=>?_)
  clear hK K
  try simp only [PT]
  exact wpAnyH_cast (by kernel_rfl) (eW s11 A11 n11 c11 s12 A12 n12 c12 aC v82 lU vA uZ vB bF)
  refine .cons rfl (fun K hK=>?_) .nil
  go_simp
  have fD:=hJ ((Below.refl v.heap.size v).alloc (Nat.le_refl _) (.cells #[.bool false,.slice none 0 0] 33))
  have hN:=hJ (BX.lit v 33 #[.bool false,.slice none 0 0])
  obtain ⟨v83,hV⟩:=nmz (World.alloc v (.cells #[.bool false,.slice none 0 0] 33))
  obtain ⟨aB,hg⟩:=nmz (v.heap.size)
  rw [hV] at fD hN ⊢
  rw [hg] at hN ⊢
  have vC:=hJ (show x1.heap.size≤aB by rw [←hg]; exact aA.out.size)
  have vD:=hJ (show aC≠aB by have:=aY.out.lt; rw [hg] at this; omega)
  clear hV hg
  have lV:=hJ (bt aA.out fD.out)
  have vE:=hJ (PIo.new aU.out fD.out)
  have vF:=hJ (BX.new aY.out fD.out)
  clear hHeld
  refine hK.out _ _ (aL.out _ lV.out) (fun hHeld=>?_)
  clear hK K
  try simp only [PT]
  exact wpAnyH_cast (by kernel_rfl) (cS s11 A11 n11 c11 aB aC v83 lV vE hN vC vF bF (hJ vD.out.symm))
 have fE:∀ (aB:Nat) (aC:Nat) (v:World),Hid (Below x1.heap.size x1 v)→Hid (BX 33 v aB #[.bool false,.slice none 0 0])→Hid (x1.heap.size≤aB)→Hid (BX 33 v aC #[.bool false,.slice none 0 0])→Hid (x1.heap.size≤aC)→Hid (aB≠aC)→F 4 (Array.setIfInBounds (Array.setIfInBounds L0 4 true) 5 true) (Act.put (Act.put a0 (some 6) (.pointer (some ⟨aB,0,none⟩))) (some 7) (.pointer (some ⟨aC,0,none⟩))) v:=by
  intro aB aC v aA aS bE aY bF cL
  subst hF ha0 hL0
  simp only [PT] at cS ⊢
  have hHeld:=aL.out _ aA.out
  refine ryy [1] ?_
  refine .cons rfl (fun K hK=>?_) .nil
  go_simp
  go_at_call 90
  refine (den_any p q sa sb Aa Ab na ca nb cb v (PF.new bO.out aA.out) (Nat.le_trans (plim (PF.new bO.out aA.out).2 (dn_lim aI.out.2.2.2.1)) (by decide)) aI.out.1).mono ?_
  rintro e v84 ⟨s11,A11,n11,c11,rfl,hr11,hb⟩
  have hO:=hJ hb
  have vG:=hJ hr11
  clear hb hr11
  go_wp2_with fail
  have lW:=hJ (bt aA.out hO.out)
  have vH:=hJ (BX.new aS.out hO.out)
  have vI:=hJ (BX.new aY.out hO.out)
  clear hHeld
  refine hK.out _ _ (aL.out _ lW.out) (fun hHeld=>?_)
  clear hK K
  try simp only [PT]
  exact wpAnyH_cast (by kernel_rfl) (cS s11 A11 n11 c11 aB aC v84 lW vG vH bE vI bF (hJ cL.out))
 have lX:∀ (s11:Bool) (A11:Option Addr) (n11:Nat) (c11:Nat) (v:World),Hid (Below x1.heap.size x1 v)→Hid (PI v s11 A11 n11 c11 q)→F 5 (Array.setIfInBounds L0 1 true) (Act.put a0 (some 16) (.agg #[.bool s11,.slice A11 n11 c11])) v:=by
  intro s11 A11 n11 c11 v aA aU
  subst hF ha0 hL0
  simp only [PT] at lP fA fC ⊢
  have hHeld:=aL.out _ aA.out
  refine ryy [3,4,5] ?_
  refine .cons rfl (fun K hK=>?_) ?_
  go_simp
  go_at_call 90
  refine (den_any r s sd se Ad Ae nd cd ne ce v (PF.new bP.out aA.out) (Nat.le_trans (plim (PF.new bP.out aA.out).2 (dn_lim aI.out.2.2.2.2.2)) (by decide)) aI.out.2.1).mono ?_
  rintro e v85 ⟨s12,A12,n12,c12,rfl,hr12,hb⟩
  have lY:=hJ hb
  have vJ:=hJ hr12
  clear hb hr12
  go_wp2_with fail
  have lZ:=hJ (bt aA.out lY.out)
  have vK:=hJ (PIo.new aU.out lY.out)
  clear hHeld
  refine hK.out _ _ (aL.out _ lZ.out) (fun hHeld=>?_)
  clear hK K
  try simp only [PT]
  exact wpAnyH_cast (by kernel_rfl) (lP s11 A11 n11 c11 s12 A12 n12 c12 v85 lZ vK vJ)
  refine .cons rfl (fun K hK=>?_) ?_
  go_simp
  have hP:=hJ ((Below.refl v.heap.size v).alloc (Nat.le_refl _) (.cells #[.bool false,.slice none 0 0] 33))
  have hQ:=hJ (BX.lit v 33 #[.bool false,.slice none 0 0])
  obtain ⟨v86,hV⟩:=nmz (World.alloc v (.cells #[.bool false,.slice none 0 0] 33))
  obtain ⟨aB,hg⟩:=nmz (v.heap.size)
  rw [hV] at hP hQ ⊢
  rw [hg] at hQ ⊢
  have vL:=hJ (show x1.heap.size≤aB by rw [←hg]; exact aA.out.size)
  clear hV hg
  have mA:=hJ (bt aA.out hP.out)
  have vM:=hJ (PIo.new aU.out hP.out)
  clear hHeld
  refine hK.out _ _ (aL.out _ mA.out) (fun hHeld=>?_)
  clear hK K
  try simp only [PT]
  exact wpAnyH_cast (by kernel_rfl) (fA s11 A11 n11 c11 aB v86 mA vM hQ vL)
  refine .cons rfl (fun K hK=>?_) .nil
  go_simp
  have hR:=hJ ((Below.refl v.heap.size v).alloc (Nat.le_refl _) (.cells #[.bool false,.slice none 0 0] 33))
  have hS:=hJ (BX.lit v 33 #[.bool false,.slice none 0 0])
  obtain ⟨v87,hV⟩:=nmz (World.alloc v (.cells #[.bool false,.slice none 0 0] 33))
  obtain ⟨aC,hg⟩:=nmz (v.heap.size)
  rw [hV] at hR hS ⊢
  rw [hg] at hS ⊢
  have vN:=hJ (show x1.heap.size≤aC by rw [←hg]; exact aA.out.size)
  clear hV hg
  have mB:=hJ (bt aA.out hR.out)
  have vO:=hJ (PIo.new aU.out hR.out)
  clear hHeld
  refine hK.out _ _ (aL.out _ mB.out) (fun hHeld=>?_)
  clear hK K
  try simp only [PT]
  exact wpAnyH_cast (by kernel_rfl) (fC s11 A11 n11 c11 aC v87 mB vO hS vN)
 have mC:∀ (aB:Nat) (v:World),Hid (Below x1.heap.size x1 v)→Hid (BX 33 v aB #[.bool false,.slice none 0 0])→Hid (x1.heap.size≤aB)→F 5 (Array.setIfInBounds L0 4 true) (Act.put a0 (some 6) (.pointer (some ⟨aB,0,none⟩))) v:=by
  intro aB v aA aS bE
  subst hF ha0 hL0
  simp only [PT] at fA fE ⊢
  have hHeld:=aL.out _ aA.out
  refine ryy [1,5] ?_
  refine .cons rfl (fun K hK=>?_) ?_
  go_simp
  go_at_call 90
  refine (den_any p q sa sb Aa Ab na ca nb cb v (PF.new bO.out aA.out) (Nat.le_trans (plim (PF.new bO.out aA.out).2 (dn_lim aI.out.2.2.2.1)) (by decide)) aI.out.1).mono ?_
  rintro e v88 ⟨s11,A11,n11,c11,rfl,hr11,hb⟩
  have mD:=hJ hb
  have vP:=hJ hr11
  clear hb hr11
  go_wp2_with fail
  have mE:=hJ (bt aA.out mD.out)
  have vQ:=hJ (BX.new aS.out mD.out)
  clear hHeld
  refine hK.out _ _ (aL.out _ mE.out) (fun hHeld=>?_)
  clear hK K
  try simp only [PT]
  exact wpAnyH_cast (by kernel_rfl) (fA s11 A11 n11 c11 aB v88 mE vP vQ bE)
  refine .cons rfl (fun K hK=>?_) .nil
  go_simp
  have hT:=hJ ((Below.refl v.heap.size v).alloc (Nat.le_refl _) (.cells #[.bool false,.slice none 0 0] 33))
  have hU:=hJ (BX.lit v 33 #[.bool false,.slice none 0 0])
  obtain ⟨v89,hV⟩:=nmz (World.alloc v (.cells #[.bool false,.slice none 0 0] 33))
  obtain ⟨aC,hg⟩:=nmz (v.heap.size)
  rw [hV] at hT hU ⊢
  rw [hg] at hU ⊢
  have vR:=hJ (show x1.heap.size≤aC by rw [←hg]; exact aA.out.size)
  have vS:=hJ (show aB≠aC by have:=aS.out.lt; rw [hg] at this; omega)
  clear hV hg
  have mF:=hJ (bt aA.out hT.out)
  have vT:=hJ (BX.new aS.out hT.out)
  clear hHeld
  refine hK.out _ _ (aL.out _ mF.out) (fun hHeld=>?_)
  clear hK K
  try simp only [PT]
  exact wpAnyH_cast (by kernel_rfl) (fE aB aC v89 mF vT bE hU vR (hJ vS.out))
 have mG:∀ (aC:Nat) (v:World),Hid (Below x1.heap.size x1 v)→Hid (BX 33 v aC #[.bool false,.slice none 0 0])→Hid (x1.heap.size≤aC)→F 5 (Array.setIfInBounds L0 5 true) (Act.put a0 (some 7) (.pointer (some ⟨aC,0,none⟩))) v:=by
  intro aC v aA aY bF
  subst hF ha0 hL0
  simp only [PT] at fC fE ⊢
  have hHeld:=aL.out _ aA.out
  refine ryy [1,4] ?_
  refine .cons rfl (fun K hK=>?_) ?_
  go_simp
  go_at_call 90
  refine (den_any p q sa sb Aa Ab na ca nb cb v (PF.new bO.out aA.out) (Nat.le_trans (plim (PF.new bO.out aA.out).2 (dn_lim aI.out.2.2.2.1)) (by decide)) aI.out.1).mono ?_
  rintro e v90 ⟨s11,A11,n11,c11,rfl,hr11,hb⟩
  have mH:=hJ hb
  have vU:=hJ hr11
  clear hb hr11
  go_wp2_with fail
  have mI:=hJ (bt aA.out mH.out)
  have vV:=hJ (BX.new aY.out mH.out)
  clear hHeld
  refine hK.out _ _ (aL.out _ mI.out) (fun hHeld=>?_)
  clear hK K
  try simp only [PT]
  exact wpAnyH_cast (by kernel_rfl) (fC s11 A11 n11 c11 aC v90 mI vU vV bF)
  refine .cons rfl (fun K hK=>?_) .nil
  go_simp
  have hW:=hJ ((Below.refl v.heap.size v).alloc (Nat.le_refl _) (.cells #[.bool false,.slice none 0 0] 33))
  have hX:=hJ (BX.lit v 33 #[.bool false,.slice none 0 0])
  obtain ⟨v91,hV⟩:=nmz (World.alloc v (.cells #[.bool false,.slice none 0 0] 33))
  obtain ⟨aB,hg⟩:=nmz (v.heap.size)
  rw [hV] at hW hX ⊢
  rw [hg] at hX ⊢
  have vW:=hJ (show x1.heap.size≤aB by rw [←hg]; exact aA.out.size)
  have vX:=hJ (show aC≠aB by have:=aY.out.lt; rw [hg] at this; omega)
  clear hV hg
  have mJ:=hJ (bt aA.out hW.out)
  have vY:=hJ (BX.new aY.out hW.out)
  clear hHeld
  refine hK.out _ _ (aL.out _ mJ.out) (fun hHeld=>?_)
  clear hK K
  try simp only [PT]
  exact wpAnyH_cast (by kernel_rfl) (fE aB aC v91 mJ hX vW vY bF (hJ vX.out.symm))
 subst hF ha0 hL0
 simp only [PT] at lX mC mG
 refine ryy [1,4,5] ?_
 refine .cons rfl (fun K hK=>?_) ?_
 go_simp
 go_at_call 90
 refine (den_any p q sa sb Aa Ab na ca nb cb v2 (PF.new bO.out cD.out) (Nat.le_trans (plim (PF.new bO.out cD.out).2 (dn_lim aI.out.2.2.2.1)) (by decide)) aI.out.1).mono ?_
 rintro e v92 ⟨s11,A11,n11,c11,rfl,hr11,hb⟩
 have vZ:=hJ hb
 have wA:=hJ hr11
 clear hb hr11
 go_wp2_with fail
 have mK:=hJ (bt cD.out vZ.out)
 clear hHeld
 refine hK.out _ _ (aL.out _ mK.out) (fun hHeld=>?_)
 clear hK K
 try simp only [PT]
 exact wpAnyH_cast (by kernel_rfl) (lX s11 A11 n11 c11 v92 mK wA)
 refine .cons rfl (fun K hK=>?_) ?_
 go_simp
 have mL:=hJ ((Below.refl v2.heap.size v2).alloc (Nat.le_refl _) (.cells #[.bool false,.slice none 0 0] 33))
 have hY:=hJ (BX.lit v2 33 #[.bool false,.slice none 0 0])
 obtain ⟨v93,hV⟩:=nmz (World.alloc v2 (.cells #[.bool false,.slice none 0 0] 33))
 obtain ⟨aB,hg⟩:=nmz (v2.heap.size)
 rw [hV] at mL hY ⊢
 rw [hg] at hY ⊢
 have wB:=hJ (show x1.heap.size≤aB by rw [←hg]; exact cD.out.size)
 clear hV hg
 have mM:=hJ (bt cD.out mL.out)
 clear hHeld
 refine hK.out _ _ (aL.out _ mM.out) (fun hHeld=>?_)
 clear hK K
 try simp only [PT]
 exact wpAnyH_cast (by kernel_rfl) (mC aB v93 mM hY wB)
 refine .cons rfl (fun K hK=>?_) .nil
 go_simp
 have mN:=hJ ((Below.refl v2.heap.size v2).alloc (Nat.le_refl _) (.cells #[.bool false,.slice none 0 0] 33))
 have hZ:=hJ (BX.lit v2 33 #[.bool false,.slice none 0 0])
 obtain ⟨v94,hV⟩:=nmz (World.alloc v2 (.cells #[.bool false,.slice none 0 0] 33))
 obtain ⟨aC,hg⟩:=nmz (v2.heap.size)
 rw [hV] at mN hZ ⊢
 rw [hg] at hZ ⊢
 have wC:=hJ (show x1.heap.size≤aC by rw [←hg]; exact cD.out.size)
 clear hV hg
 have mO:=hJ (bt cD.out mN.out)
 clear hHeld
 refine hK.out _ _ (aL.out _ mO.out) (fun hHeld=>?_)
 clear hK K
 try simp only [PT]
 exact wpAnyH_cast (by kernel_rfl) (mG aC v94 mO hZ wC)
end Go.Proofs.YtagakcficjcfhaaGreat
namespace Go.Proofs.YtagakcficjcfhaaGreat
set_option maxRecDepth 100000
set_option maxHeartbeats 12800000
open Go.RowKit
attribute [local go_sem ↓] Go.wp_at_zero Go.wp_at_succ
theorem i64_lim {x:Int} (h:(Lit.int .i64 x).wf=true):x.natAbs < lim:=by
 obtain ⟨h1,h2⟩ : -9223372036854775808≤x∧x≤9223372036854775807:=by simpa [Lit.wf,IntKind.min,IntKind.max,IntKind.signed,IntKind.bits] using h
 exact B2.lim (k:=64) (by have:B2 64=18446744073709551616:=rfl; omega) (by decide)
theorem mkQ_pos {p q:Int}:0 < mkQ p q:=by
 unfold mkQ
 split
 ·decide
 ·rename_i h
  have h1:=Nat.gcd_pos_of_pos_right p.natAbs (show 0 < q.natAbs by omega)
  have hd:=Nat.gcd_dvd_right p.natAbs q.natAbs
  unfold mkD
  obtain ⟨k,hk⟩:=hd
  generalize Nat.gcd p.natAbs q.natAbs=G at *
  have hk0:0 < k:=by
   rcases Nat.eq_zero_or_pos k with e | e
   ·subst e; omega
   exact e
  split
  ·have e:q = -(G:Int)*(k:Int):=by
    have h3:q = -(q.natAbs:Int):=by omega
    rw [h3,hk,Int.natCast_mul,Int.neg_mul]
   rw [e,Int.mul_ediv_cancel_left _ (by omega)]
   omega
  ·have e:q=(G:Int)*(k:Int):=by
    have h3:q=(q.natAbs:Int):=by omega
    rw [h3,hk,Int.natCast_mul]
   rw [e,Int.mul_ediv_cancel_left _ (by omega)]
   omega
theorem one_lim:(1:Int).natAbs < lim:=by
 rw [lim_two]
 exact Nat.one_lt_two_pow (by decide)
theorem mkPQ_lim {p q:Int} (hp:p.natAbs < lim) (hq:q.natAbs < lim):(mkP p q).natAbs < lim∧(mkQ p q).natAbs < lim:=by
 by_cases h:q=0
 ·subst h
  exact ⟨by rw [(mk_zero p).1]; have:=one_lim; simp at this ⊢; omega,by rw [(mk_zero p).2.1]; exact one_lim⟩
 ·exact mk_lim h hp hq
theorem fof_any (p q:Int) (w:World) (hp:(Lit.int .i64 p).wf=true) (hq:(Lit.int .i64 q).wf=true) :
  Calls Tryz.prog 53 #[.int .i64 p,.int .i64 q] w (RetFE (mkP p q) (mkQ p q) (mkC q) w):=by
 have HP:=hJ hp
 have HQ:=hJ hq
 clear hp hq
 obtain ⟨W,hW⟩:∃ W,w.alloc (.cells #[.bool false,.slice none 0 0,.bool false,.slice none 0 0] 35)=W:=⟨_,rfl⟩
 have HK:=hJ (show Below w.heap.size w W by rw [←hW]; exact (Below.refl _ w).alloc (Nat.le_refl _) _)
 have HZ:=hJ (show P4 35 W w.heap.size (.bool false) (.slice none 0 0) (.bool false) (.slice none 0 0) by rw [←hW]; exact P4.lit _ _ _ _ _ _)
 go_enter Tryz.func53,Tryz.ntmps53
 go_wp2_with fail
 refine (from_any p W HP.out).mono ?_
 rintro e w1 ⟨s1,A1,n1,c1,rfl,hr1,hb1⟩
 have aB:=hJ hr1
 have aC:=hJ (bt HK.out hb1)
 have aD:=hJ (HZ.out.new hb1)
 clear hr1 hb1
 go_wp2_with fail
 refine (from_any q w1 HQ.out).mono ?_
 rintro e w2 ⟨s2,A2,n2,c2,rfl,hr2,hb2⟩
 have aF:=hJ hr2
 have aG:=hJ (PIo.new aB.out hb2)
 have aH:=hJ (bt aC.out hb2)
 have aI:=hJ (aD.out.new hb2)
 clear hr2 hb2
 go_wp2_with fail
 refine (fmake_any p q s1 s2 A1 A2 n1 c1 n2 c2 w2 aG.out aF.out (i64_lim HP.out) (i64_lim HQ.out)).mono ?_
 rintro e w3 ⟨s3,A3,n3,c3,s4,A4,n4,c4,rfl,hr3,hb3⟩
 have aJ:=hJ hr3
 have aK:=hJ (bt aH.out hb3)
 have aA:=hJ (aI.out.new hb3)
 clear hr3 hb3
 obtain ⟨z0,z1,z2,z3⟩:=aA.out.cells
 have f0:=aA.out.frozen 0
 have f1:=aA.out.frozen 1
 have f2:=aA.out.frozen 2
 have f3:=aA.out.frozen 3
 go_wp2
 exact bodyPost_ret (results_cell1 rfl _ _ _ _ _ _ _ rfl (aA.out.all (.bool s3) (.slice A3 n3 c3) (.bool s4) (.slice A4 n4 c4)) Tryz.underlying35 rfl F_size) rfl (RetFE.stored aJ.out aA.out aK.out (Nat.le_refl _) _ _ _ _)
theorem fsub_any (p q r s:Int) (sa sb sd se:Bool) (Aa Ab Ad Ae:Option Addr) (na ca nb cb nd cd ne ce:Nat) (w:World) (hx:PF w sa Aa na ca sb Ab nb cb p q) (hy:PF w sd Ad nd cd se Ae ne ce r s) (hq:0 < q) (hs:0 < s) (hlp:p.natAbs < lim) (hlq:q.natAbs < lim) (hlr:r.natAbs < lim) (hls:s.natAbs < lim) :
  Calls Tryz.prog 102 #[.agg #[.bool sa,.slice Aa na ca,.bool sb,.slice Ab nb cb],.agg #[.bool sd,.slice Ad nd cd,.bool se,.slice Ae ne ce]] w (RetFE (adP p q (-r) s) (adQ p q (-r) s) (adC p q (-r) s) w):=by
 have aF:=hJ (And.intro hq (And.intro hs (And.intro hlp (And.intro hlq (And.intro hlr hls)))))
 obtain ⟨W,hW⟩:∃ W,((w.alloc (.cells #[.bool sa,.slice Aa na ca,.bool sb,.slice Ab nb cb] 35)).alloc (.cells #[.bool sd,.slice Ad nd cd,.bool se,.slice Ae ne ce] 35)).alloc (.cells #[.bool false,.slice none 0 0,.bool false,.slice none 0 0] 35)=W:=⟨_,rfl⟩
 have HK:=hJ (show Below w.heap.size w W by rw [←hW]; exact W444_k _ _ _ _ _ _ _ _ _ _ _ _ _ _)
 have aU:=hJ (show P4 35 W w.heap.size (.bool sa) (.slice Aa na ca) (.bool sb) (.slice Ab nb cb) by rw [←hW]; exact W444_a _ _ _ _ _ _ _ _ _ _ _ _ _ _)
 have aV:=hJ (show P4 35 W (w.heap.size+1) (.bool sd) (.slice Ad nd cd) (.bool se) (.slice Ae ne ce) by rw [←hW]; exact W444_b _ _ _ _ _ _ _ _ _ _ _ _ _ _)
 have aW:=hJ (show P4 35 W (w.heap.size+1+1) (.bool false) (.slice none 0 0) (.bool false) (.slice none 0 0) by rw [←hW]; exact W444_z _ _ _ _ _ _ _ _ _ _ _ _ _ _)
 have bA:=hJ (hx.new HK.out)
 have bB:=hJ (hy.new HK.out)
 have hna:na≤512:=plim hx.1 hlp
 have hnb:nb≤512:=plim hx.2 (dn_lim hlq)
 have hnd:nd≤512:=plim hy.1 hlr
 have hne:ne≤512:=plim hy.2 (dn_lim hls)
 obtain ⟨h,hh⟩:∃ h,w.heap.size=h:=⟨_,rfl⟩
 have HH:=hJ hh
 rw [hh] at aU aV aW
 clear hx hy hq hs hlp hlq hlr hls
 go_enter Tryz.func102,Tryz.ntmps102
 go_upto_region 1 with fail
 clear hW hh
 obtain ⟨P,hP⟩:∃ x,adP p q (-r) s=x:=⟨_,rfl⟩
 obtain ⟨Q,hQ⟩:∃ x,adQ p q (-r) s=x:=⟨_,rfl⟩
 obtain ⟨C,hC⟩:∃ x,adC p q (-r) s=x:=⟨_,rfl⟩
 have aG:=hJ (And.intro hP (And.intro hQ hC))
 have bC:=hJ (show (-r).natAbs < lim by rw [Int.natAbs_neg]; exact aF.out.2.2.2.2.1)
 clear hP hQ hC
 obtain ⟨v0,hv0⟩:=nmz (World.drew W)
 have aC:=hJ (show Below W.heap.size W v0 by rw [←hv0]; exact (Below.refl _ _).drew)
 have aR:=hJ (bt HK.out aC.out)
 have a_0:=hJ ((bA.out).new aC.out)
 have b_0:=hJ ((bB.out).new aC.out)
 have aH:=hJ (aU.out.new aC.out)
 have aI:=hJ (aV.out.new aC.out)
 have aX:=hJ (aW.out.new aC.out)
 refine wp_region_held_drew (S:=(fun w':World=>w'.cell? ⟨h,0,none⟩=some (.bool sa)∧w'.cell? ⟨h,1,none⟩=some (.slice Aa na ca)∧w'.cell? ⟨h,2,none⟩=some (.bool sb)∧w'.cell? ⟨h,3,none⟩=some (.slice Ab nb cb)∧w'.cell? ⟨(h+1),0,none⟩=some (.bool sd)∧w'.cell? ⟨(h+1),1,none⟩=some (.slice Ad nd cd)∧w'.cell? ⟨(h+1),2,none⟩=some (.bool se)∧w'.cell? ⟨(h+1),3,none⟩=some (.slice Ae ne ce)∧Below w.heap.size w w')) (by kernel_rfl) ?_ (fun hHeld=>?_)
 ·rw [hv0]
  exact ⟨aH.out.cells.1,aH.out.cells.2.1,aH.out.cells.2.2.1,aH.out.cells.2.2.2,aI.out.cells.1,aI.out.cells.2.1,aI.out.cells.2.2.1,aI.out.cells.2.2.2,aR.out⟩
 rw [hv0] at hHeld ⊢
 clear hv0 aC
 refine tq 0 ?_
 refine tq 1 ?_
 refine tq 2 ?_
 refine tq 4 ?_
 refine tq 5 ?_
 try simp only [PT]
 refine ryy [3] ?_
 refine .cons rfl (fun K hK=>?_) .nil
 go_simp
 go_at_call 113
 refine (pneg_any r sd Ad nd cd v0 (b_0.out.1) (by omega)).mono ?_
 rintro e v1 ⟨t1,T1,m1,d1,rfl,hr,hk⟩
 have N_1:=hJ (hr)
 have aD:=hJ hk
 go_wp2_with fail
 have aS:=hJ (bt aR.out aD.out)
 have a_1:=hJ ((a_0.out).new aD.out)
 have b_1:=hJ ((b_0.out).new aD.out)
 have aJ:=hJ (aH.out.new aD.out)
 have aK:=hJ (aI.out.new aD.out)
 have aY:=hJ (aX.out.new aD.out)
 clear hHeld
 refine hK.out _ _ (⟨aJ.out.cells.1,aJ.out.cells.2.1,aJ.out.cells.2.2.1,aJ.out.cells.2.2.2,aK.out.cells.1,aK.out.cells.2.1,aK.out.cells.2.2.1,aK.out.cells.2.2.2,aS.out⟩) (fun hHeld=>?_)
 clear hK K hk aD hr aR a_0 b_0 aH aI aX
 refine tq 6 ?_
 try simp only [PT]
 refine ryy [7] ?_
 refine .cons rfl (fun K hK=>?_) .nil
 go_simp
 go_at_call 67
 refine (fadd_any p q (-r) s sa sb t1 se Aa Ab T1 Ae na ca nb cb m1 d1 ne ce v1 (a_1.out) ⟨N_1.out,b_1.out.2⟩ aF.out.1 aF.out.2.1 aF.out.2.2.1 aF.out.2.2.2.1 bC.out aF.out.2.2.2.2.2).mono ?_
 rw [aG.out.1,aG.out.2.1,aG.out.2.2]
 rintro e v2 ⟨t3,T3,m3,d3,t4,T4,m4,d4,rfl,hr,hk⟩
 have R_2:=hJ (hr)
 have aB:=hJ hk
 go_wp2_with fail
 have aT:=hJ (bt aS.out aB.out)
 have a_2:=hJ ((a_1.out).new aB.out)
 have b_2:=hJ ((b_1.out).new aB.out)
 have N_2:=hJ (PIo.new N_1.out aB.out)
 have aL:=hJ (aJ.out.new aB.out)
 have aM:=hJ (aK.out.new aB.out)
 have aA:=hJ (aY.out.new aB.out)
 clear hHeld
 refine hK.out _ _ (⟨aL.out.cells.1,aL.out.cells.2.1,aL.out.cells.2.2.1,aL.out.cells.2.2.2,aM.out.cells.1,aM.out.cells.2.1,aM.out.cells.2.2.1,aM.out.cells.2.2.2,aT.out⟩) (fun hHeld=>?_)
 clear hK K hk aB hr aS a_1 b_1 N_1 aJ aK aY
 refine tq 8 ?_
 refine tq 9 ?_
 try simp only [PT]
 refine ryy [10] ?_
 refine .cons rfl (fun K hK=>?_) .nil
 obtain ⟨z0,z1,z2,z3⟩:=aA.out.cells
 have y0:=aA.out.frozen 0
 have y1:=aA.out.frozen 1
 have y2:=aA.out.frozen 2
 have y3:=aA.out.frozen 3
 have z9:=aA.out.lt
 go_simp
 obtain ⟨v3,hV⟩:=nmz (World.setCell (World.setCell (World.setCell (World.setCell v2 ⟨(h+1+1),0,none⟩ (.bool t3)) ⟨(h+1+1),1,none⟩ (.slice T3 m3 d3)) ⟨(h+1+1),2,none⟩ (.bool t4)) ⟨(h+1+1),3,none⟩ (.slice T4 m4 d4))
 rw [hV]
 have aZ:=hJ (show Below w.heap.size w v3 by rw [←hV]; exact below_box4 aT.out (by rw [HH.out]; omega) _ _ _ _)
 have a_3:=hJ (show PF v3 sa Aa na ca sb Ab nb cb p q by rw [←hV]; exact PF.box4 (a_2.out) (aA.out) (.bool t3) (.slice T3 m3 d3) (.bool t4) (.slice T4 m4 d4))
 have b_3:=hJ (show PF v3 sd Ad nd cd se Ae ne ce r s by rw [←hV]; exact PF.box4 (b_2.out) (aA.out) (.bool t3) (.slice T3 m3 d3) (.bool t4) (.slice T4 m4 d4))
 have N_3:=hJ (show PI v3 t1 T1 m1 d1 (-r) by rw [←hV]; exact PIo.box4 (N_2.out) (aA.out) rfl rfl rfl rfl (.bool t3) (.slice T3 m3 d3) (.bool t4) (.slice T4 m4 d4))
 have R_3:=hJ (show PF v3 t3 T3 m3 d3 t4 T4 m4 d4 P Q by rw [←hV]; exact PF.box4 (R_2.out) (aA.out) (.bool t3) (.slice T3 m3 d3) (.bool t4) (.slice T4 m4 d4))
 have aN:=hJ (show P4 35 v3 h (.bool sa) (.slice Aa na ca) (.bool sb) (.slice Ab nb cb) by rw [←hV]; exact aL.out.far4 (show h≠(h+1+1) from (by omega)) (.bool t3) (.slice T3 m3 d3) (.bool t4) (.slice T4 m4 d4))
 have aO:=hJ (show P4 35 v3 (h+1) (.bool sd) (.slice Ad nd cd) (.bool se) (.slice Ae ne ce) by rw [←hV]; exact aM.out.far4 (show (h+1)≠(h+1+1) from (by omega)) (.bool t3) (.slice T3 m3 d3) (.bool t4) (.slice T4 m4 d4))
 have bD:=hJ (show P4 35 v3 (h+1+1) (.bool t3) (.slice T3 m3 d3) (.bool t4) (.slice T4 m4 d4) by rw [←hV]; exact aA.out.all (.bool t3) (.slice T3 m3 d3) (.bool t4) (.slice T4 m4 d4))
 clear hHeld
 refine hK.out _ _ (⟨aN.out.cells.1,aN.out.cells.2.1,aN.out.cells.2.2.1,aN.out.cells.2.2.2,aO.out.cells.1,aO.out.cells.2.1,aO.out.cells.2.2.1,aO.out.cells.2.2.2,aZ.out⟩) (fun hHeld=>?_)
 clear hK K hV z9 z0 z1 z2 z3 y0 y1 y2 y3 aT a_2 b_2 N_2 R_2 aL aM aA
 refine tq 11 ?_
 try simp only [PT]
 refine wpAnyH_done (by kernel_rfl) ?_ _
 clear hHeld
 go_wp2
 exact bodyPost_ret (results_cell1 rfl _ _ _ _ _ _ _ rfl (bD.out) Tryz.underlying35 rfl F_size) rfl (by rw [aG.out.1,aG.out.2.1,aG.out.2.2]; exact ⟨t3,T3,m3,d3,t4,T4,m4,d4,rfl,R_3.out,aZ.out⟩)
def dvP (p q r s:Int):Int:=if r=0 then 0 else muP p q (mkP s r) (mkQ s r)
def dvQ (p q r s:Int):Int:=if r=0 then 1 else muQ p q (mkP s r) (mkQ s r)
def dvC (p q r s:Int):Int:=if r=0 then 1 else muC p q (mkP s r) (mkQ s r)
theorem fdiv_any (p q r s:Int) (sa sb sd se:Bool) (Aa Ab Ad Ae:Option Addr) (na ca nb cb nd cd ne ce:Nat) (w:World) (hx:PF w sa Aa na ca sb Ab nb cb p q) (hy:PF w sd Ad nd cd se Ae ne ce r s) (hq:0 < q) (hs:0 < s) (hlp:p.natAbs < lim) (hlq:q.natAbs < lim) (hlr:r.natAbs < lim) (hls:s.natAbs < lim) :
  Calls Tryz.prog 74 #[.agg #[.bool sa,.slice Aa na ca,.bool sb,.slice Ab nb cb],.agg #[.bool sd,.slice Ad nd cd,.bool se,.slice Ae ne ce]] w (RetFE (dvP p q r s) (dvQ p q r s) (dvC p q r s) w):=by
 have aB:=hJ (And.intro hq (And.intro hs (And.intro hlp (And.intro hlq (And.intro hlr hls)))))
 obtain ⟨W,hW⟩:∃ W,((w.alloc (.cells #[.bool sa,.slice Aa na ca,.bool sb,.slice Ab nb cb] 35)).alloc (.cells #[.bool sd,.slice Ad nd cd,.bool se,.slice Ae ne ce] 35)).alloc (.cells #[.bool false,.slice none 0 0,.bool false,.slice none 0 0] 35)=W:=⟨_,rfl⟩
 have HK:=hJ (show Below w.heap.size w W by rw [←hW]; exact W444_k _ _ _ _ _ _ _ _ _ _ _ _ _ _)
 have aZ:=hJ (show P4 35 W w.heap.size (.bool sa) (.slice Aa na ca) (.bool sb) (.slice Ab nb cb) by rw [←hW]; exact W444_a _ _ _ _ _ _ _ _ _ _ _ _ _ _)
 have aI:=hJ (show P4 35 W (w.heap.size+1) (.bool sd) (.slice Ad nd cd) (.bool se) (.slice Ae ne ce) by rw [←hW]; exact W444_b _ _ _ _ _ _ _ _ _ _ _ _ _ _)
 have bA:=hJ (show P4 35 W (w.heap.size+1+1) (.bool false) (.slice none 0 0) (.bool false) (.slice none 0 0) by rw [←hW]; exact W444_z _ _ _ _ _ _ _ _ _ _ _ _ _ _)
 have bK:=hJ (hx.new HK.out)
 have bL:=hJ (hy.new HK.out)
 have bS:=hJ (show PF W false none 0 0 false none 0 0 0 1 from ⟨PI.zero W,PI.zero W⟩)
 have hna:na≤512:=plim hx.1 hlp
 have hnb:nb≤512:=plim hx.2 (dn_lim hlq)
 have hnd:nd≤512:=plim hy.1 hlr
 have hne:ne≤512:=plim hy.2 (dn_lim hls)
 obtain ⟨h,hh⟩:∃ h,w.heap.size=h:=⟨_,rfl⟩
 have HH:=hJ hh
 rw [hh] at aZ aI bA
 clear hx hy hq hs hlp hlq hlr hls
 go_enter Tryz.func74,Tryz.ntmps74
 have HS:Hid (∀ w',Below W.heap.size W w'→(fun w':World=>w'.cell? ⟨(h+1),0,none⟩=some (.bool sd)∧w'.cell? ⟨(h+1),1,none⟩=some (.slice Ad nd cd)∧w'.cell? ⟨(h+1),2,none⟩=some (.bool se)∧w'.cell? ⟨(h+1),3,none⟩=some (.slice Ae ne ce)∧Below W.heap.size W w') w'):=hJ (fun w' hb=>⟨(aI.out.new hb).cells.1,(aI.out.new hb).cells.2.1,(aI.out.new hb).cells.2.2.1,(aI.out.new hb).cells.2.2.2,hb⟩)
 have bM:=hJ (Below.refl W.heap.size W)
 obtain ⟨P,hP⟩:∃ x,mkP s r=x:=⟨_,rfl⟩
 obtain ⟨Q,hQ⟩:∃ x,mkQ s r=x:=⟨_,rfl⟩
 obtain ⟨C,hC⟩:∃ x,mkC r=x:=⟨_,rfl⟩
 have aA:=hJ (And.intro hP (And.intro hQ hC))
 clear hP hQ hC
 go_upto_region 1 with fail
 clear hW hh
 go_cut [6,7] (fun tp tq wx=>∃ (G:Nat) (s1:Bool) (A1:Option Addr) (n1 c1:Nat) (s2:Bool) (A2:Option Addr) (n2 c2:Nat),tp=.pointer (some ⟨G,0,none⟩)∧tq=.int .i64 C∧P4 35 wx G (.bool s1) (.slice A1 n1 c1) (.bool s2) (.slice A2 n2 c2)∧PF wx s1 A1 n1 c1 s2 A2 n2 c2 P Q∧Below W.heap.size W wx)
 case first =>
  obtain ⟨v0,hv0⟩:=nmz (World.drew W)
  have bB:=hJ (show Below W.heap.size W v0 by rw [←hv0]; exact (Below.refl _ _).drew)
  have aJ:=hJ (bt bM.out bB.out)
  have b_0:=hJ ((bL.out).new bB.out)
  refine wp_region_held_drew (S:=(fun w':World=>w'.cell? ⟨(h+1),0,none⟩=some (.bool sd)∧w'.cell? ⟨(h+1),1,none⟩=some (.slice Ad nd cd)∧w'.cell? ⟨(h+1),2,none⟩=some (.bool se)∧w'.cell? ⟨(h+1),3,none⟩=some (.slice Ae ne ce)∧Below W.heap.size W w')) (by kernel_rfl) ?_ (fun hHeld=>?_)
  ·rw [hv0]
   exact HS.out _ aJ.out
  rw [hv0] at hHeld ⊢
  clear hv0 bB
  refine tq 0 ?_
  refine tq 2 ?_
  refine tq 3 ?_
  try simp only [PT]
  refine ryy [1,8] ?_
  refine .cons rfl (fun K hK=>?_) ?_
  go_simp
  go_at_call 90
  refine (den_any r s sd se Ad Ae nd cd ne ce v0 (b_0.out) (by omega) aB.out.2.1).mono ?_
  rintro e v1 ⟨t1,T1,m1,d1,rfl,hr,hk⟩
  have N_1:=hJ (hr)
  have bC:=hJ hk
  go_wp2_with fail
  have aK:=hJ (bt aJ.out bC.out)
  have b_1:=hJ ((b_0.out).new bC.out)
  clear hHeld
  refine hK.out _ _ (HS.out _ aK.out) (fun hHeld=>?_)
  clear hK K hk bC hr aJ b_0
  try simp only [PT]
  refine ryy [4,8] ?_
  refine .cons rfl (fun K hK=>?_) ?_
  go_simp
  go_at_call 83
  refine (fmake_any s r t1 sd T1 Ad m1 d1 nd cd v1 (N_1.out) (b_1.out.1) aB.out.2.2.2.2.2 aB.out.2.2.2.2.1).mono ?_
  rw [aA.out.1,aA.out.2.1,aA.out.2.2]
  rintro e v2 ⟨t3,T3,m3,d3,t4,T4,m4,d4,rfl,hr,hk⟩
  have R_2:=hJ (hr)
  have aT:=hJ hk
  go_wp2_with fail
  have aU:=hJ (bt aK.out aT.out)
  have b_2:=hJ ((b_1.out).new aT.out)
  have N_2:=hJ (PIo.new N_1.out aT.out)
  clear hHeld
  refine hK.out _ _ (HS.out _ aU.out) (fun hHeld=>?_)
  clear hK K hk aT hr aK b_1 N_1
  refine tq 5 ?_
  refine tq 6 ?_
  refine tq 7 ?_
  try simp only [PT]
  refine ryy [8] ?_
  refine .cons rfl (fun K hK=>?_) .nil
  go_simp
  have aL:=hJ ((Below.refl v2.heap.size v2).alloc (Nat.le_refl _) (.cells #[.bool false,.slice none 0 0,.bool false,.slice none 0 0] 35))
  have aC:=hJ (P4.lit v2 35 (.bool false) (.slice none 0 0) (.bool false) (.slice none 0 0))
  obtain ⟨v3,hV⟩:=nmz (World.alloc v2 (.cells #[.bool false,.slice none 0 0,.bool false,.slice none 0 0] 35))
  obtain ⟨gx,hg⟩:=nmz (v2.heap.size)
  rw [hV] at aL aC  ⊢
  rw [hg] at aC  ⊢
  have aM:=hJ (show W.heap.size≤gx by rw [←hg]; exact aU.out.size)
  have bD:=hJ (bt aU.out aL.out)
  have b_3:=hJ ((b_2.out).new aL.out)
  have N_3:=hJ (PIo.new N_2.out aL.out)
  have R_3:=hJ (PF.new R_2.out aL.out)
  clear hHeld
  refine hK.out _ _ (HS.out _ bD.out) (fun hHeld=>?_)
  clear hK K hV hg aL aU b_2 N_2 R_2
  try simp only [PT]
  refine ryy [9] ?_
  refine .cons rfl (fun K hK=>?_) .nil
  obtain ⟨z0,z1,z2,z3⟩:=aC.out.cells
  have y0:=aC.out.frozen 0
  have y1:=aC.out.frozen 1
  have y2:=aC.out.frozen 2
  have y3:=aC.out.frozen 3
  have z9:=aC.out.lt
  go_simp
  obtain ⟨v4,hV⟩:=nmz (World.setCell (World.setCell (World.setCell (World.setCell v3 ⟨gx,0,none⟩ (.bool t3)) ⟨gx,1,none⟩ (.slice T3 m3 d3)) ⟨gx,2,none⟩ (.bool t4)) ⟨gx,3,none⟩ (.slice T4 m4 d4))
  rw [hV]
  have bN:=hJ (show Below W.heap.size W v4 by rw [←hV]; exact below_box4 bD.out (aM.out) _ _ _ _)
  have b_4:=hJ (show PF v4 sd Ad nd cd se Ae ne ce r s by rw [←hV]; exact PF.box4 (b_3.out) (aC.out) (.bool t3) (.slice T3 m3 d3) (.bool t4) (.slice T4 m4 d4))
  have N_4:=hJ (show PI v4 t1 T1 m1 d1 s by rw [←hV]; exact PIo.box4 (N_3.out) (aC.out) rfl rfl rfl rfl (.bool t3) (.slice T3 m3 d3) (.bool t4) (.slice T4 m4 d4))
  have R_4:=hJ (show PF v4 t3 T3 m3 d3 t4 T4 m4 d4 P Q by rw [←hV]; exact PF.box4 (R_3.out) (aC.out) (.bool t3) (.slice T3 m3 d3) (.bool t4) (.slice T4 m4 d4))
  have bT:=hJ (show P4 35 v4 gx (.bool t3) (.slice T3 m3 d3) (.bool t4) (.slice T4 m4 d4) by rw [←hV]; exact aC.out.all (.bool t3) (.slice T3 m3 d3) (.bool t4) (.slice T4 m4 d4))
  clear hHeld
  refine hK.out _ _ (HS.out _ bN.out) (fun hHeld=>?_)
  clear hK K hV z9 z0 z1 z2 z3 y0 y1 y2 y3 bD b_3 N_3 R_3 aC
  refine tq 10 ?_
  try simp only [PT]
  refine wpAnyH_done (by kernel_rfl) ?_ _
  clear hHeld
  go_wp2_with fail
  go_meet
  exact ⟨gx,t3,T3,m3,d3,t4,T4,m4,d4,rfl,rfl,bT.out,R_4.out,bN.out⟩
  refine .cons rfl (fun K hK=>?_) .nil
  go_simp
  have aN:=hJ ((Below.refl v1.heap.size v1).alloc (Nat.le_refl _) (.cells #[.bool false,.slice none 0 0,.bool false,.slice none 0 0] 35))
  have aV:=hJ (P4.lit v1 35 (.bool false) (.slice none 0 0) (.bool false) (.slice none 0 0))
  obtain ⟨v5,hV⟩:=nmz (World.alloc v1 (.cells #[.bool false,.slice none 0 0,.bool false,.slice none 0 0] 35))
  obtain ⟨gx,hg⟩:=nmz (v1.heap.size)
  rw [hV] at aN aV  ⊢
  rw [hg] at aV  ⊢
  have aM:=hJ (show W.heap.size≤gx by rw [←hg]; exact aK.out.size)
  have bE:=hJ (bt aK.out aN.out)
  have b_5:=hJ ((b_1.out).new aN.out)
  have N_5:=hJ (PIo.new N_1.out aN.out)
  clear hHeld
  refine hK.out _ _ (HS.out _ bE.out) (fun hHeld=>?_)
  clear hK K hV hg aN aK b_1 N_1
  try simp only [PT]
  refine ryy [4] ?_
  refine .cons rfl (fun K hK=>?_) .nil
  go_simp
  go_at_call 83
  refine (fmake_any s r t1 sd T1 Ad m1 d1 nd cd v5 (N_5.out) (b_5.out.1) aB.out.2.2.2.2.2 aB.out.2.2.2.2.1).mono ?_
  rw [aA.out.1,aA.out.2.1,aA.out.2.2]
  rintro e v6 ⟨t3,T3,m3,d3,t4,T4,m4,d4,rfl,hr,hk⟩
  have R_6:=hJ (hr)
  have aO:=hJ hk
  go_wp2_with fail
  have bF:=hJ (bt bE.out aO.out)
  have b_6:=hJ ((b_5.out).new aO.out)
  have N_6:=hJ (PIo.new N_5.out aO.out)
  have aD:=hJ (aV.out.new aO.out)
  clear hHeld
  refine hK.out _ _ (HS.out _ bF.out) (fun hHeld=>?_)
  clear hK K hk aO hr bE b_5 N_5 aV
  refine tq 5 ?_
  refine tq 6 ?_
  refine tq 7 ?_
  try simp only [PT]
  refine ryy [9] ?_
  refine .cons rfl (fun K hK=>?_) .nil
  obtain ⟨z0,z1,z2,z3⟩:=aD.out.cells
  have y0:=aD.out.frozen 0
  have y1:=aD.out.frozen 1
  have y2:=aD.out.frozen 2
  have y3:=aD.out.frozen 3
  have z9:=aD.out.lt
  go_simp
  obtain ⟨v7,hV⟩:=nmz (World.setCell (World.setCell (World.setCell (World.setCell v6 ⟨gx,0,none⟩ (.bool t3)) ⟨gx,1,none⟩ (.slice T3 m3 d3)) ⟨gx,2,none⟩ (.bool t4)) ⟨gx,3,none⟩ (.slice T4 m4 d4))
  rw [hV]
  have bO:=hJ (show Below W.heap.size W v7 by rw [←hV]; exact below_box4 bF.out (aM.out) _ _ _ _)
  have b_7:=hJ (show PF v7 sd Ad nd cd se Ae ne ce r s by rw [←hV]; exact PF.box4 (b_6.out) (aD.out) (.bool t3) (.slice T3 m3 d3) (.bool t4) (.slice T4 m4 d4))
  have N_7:=hJ (show PI v7 t1 T1 m1 d1 s by rw [←hV]; exact PIo.box4 (N_6.out) (aD.out) rfl rfl rfl rfl (.bool t3) (.slice T3 m3 d3) (.bool t4) (.slice T4 m4 d4))
  have R_7:=hJ (show PF v7 t3 T3 m3 d3 t4 T4 m4 d4 P Q by rw [←hV]; exact PF.box4 (R_6.out) (aD.out) (.bool t3) (.slice T3 m3 d3) (.bool t4) (.slice T4 m4 d4))
  have bU:=hJ (show P4 35 v7 gx (.bool t3) (.slice T3 m3 d3) (.bool t4) (.slice T4 m4 d4) by rw [←hV]; exact aD.out.all (.bool t3) (.slice T3 m3 d3) (.bool t4) (.slice T4 m4 d4))
  clear hHeld
  refine hK.out _ _ (HS.out _ bO.out) (fun hHeld=>?_)
  clear hK K hV z9 z0 z1 z2 z3 y0 y1 y2 y3 bF b_6 N_6 R_6 aD
  refine tq 10 ?_
  try simp only [PT]
  refine wpAnyH_done (by kernel_rfl) ?_ _
  clear hHeld
  go_wp2_with fail
  go_meet
  exact ⟨gx,t3,T3,m3,d3,t4,T4,m4,d4,rfl,rfl,bU.out,R_7.out,bO.out⟩
  refine .cons rfl (fun K hK=>?_) .nil
  go_simp
  have aW:=hJ ((Below.refl v0.heap.size v0).alloc (Nat.le_refl _) (.cells #[.bool false,.slice none 0 0,.bool false,.slice none 0 0] 35))
  have aX:=hJ (P4.lit v0 35 (.bool false) (.slice none 0 0) (.bool false) (.slice none 0 0))
  obtain ⟨v8,hV⟩:=nmz (World.alloc v0 (.cells #[.bool false,.slice none 0 0,.bool false,.slice none 0 0] 35))
  obtain ⟨gx,hg⟩:=nmz (v0.heap.size)
  rw [hV] at aW aX  ⊢
  rw [hg] at aX  ⊢
  have aM:=hJ (show W.heap.size≤gx by rw [←hg]; exact aJ.out.size)
  have bG:=hJ (bt aJ.out aW.out)
  have b_8:=hJ ((b_0.out).new aW.out)
  clear hHeld
  refine hK.out _ _ (HS.out _ bG.out) (fun hHeld=>?_)
  clear hK K hV hg aW aJ b_0
  try simp only [PT]
  refine ryy [1] ?_
  refine .cons rfl (fun K hK=>?_) .nil
  go_simp
  go_at_call 90
  refine (den_any r s sd se Ad Ae nd cd ne ce v8 (b_8.out) (by omega) aB.out.2.1).mono ?_
  rintro e v9 ⟨t1,T1,m1,d1,rfl,hr,hk⟩
  have N_9:=hJ (hr)
  have aY:=hJ hk
  go_wp2_with fail
  have bH:=hJ (bt bG.out aY.out)
  have b_9:=hJ ((b_8.out).new aY.out)
  have bP:=hJ (aX.out.new aY.out)
  clear hHeld
  refine hK.out _ _ (HS.out _ bH.out) (fun hHeld=>?_)
  clear hK K hk aY hr bG b_8 aX
  try simp only [PT]
  refine ryy [4] ?_
  refine .cons rfl (fun K hK=>?_) .nil
  go_simp
  go_at_call 83
  refine (fmake_any s r t1 sd T1 Ad m1 d1 nd cd v9 (N_9.out) (b_9.out.1) aB.out.2.2.2.2.2 aB.out.2.2.2.2.1).mono ?_
  rw [aA.out.1,aA.out.2.1,aA.out.2.2]
  rintro e v10 ⟨t3,T3,m3,d3,t4,T4,m4,d4,rfl,hr,hk⟩
  have R_10:=hJ (hr)
  have aR:=hJ hk
  go_wp2_with fail
  have bJ:=hJ (bt bH.out aR.out)
  have b_10:=hJ ((b_9.out).new aR.out)
  have N_10:=hJ (PIo.new N_9.out aR.out)
  have aF:=hJ (bP.out.new aR.out)
  clear hHeld
  refine hK.out _ _ (HS.out _ bJ.out) (fun hHeld=>?_)
  clear hK K hk aR hr bH b_9 N_9 bP
  refine tq 5 ?_
  refine tq 6 ?_
  refine tq 7 ?_
  try simp only [PT]
  refine ryy [9] ?_
  refine .cons rfl (fun K hK=>?_) .nil
  obtain ⟨z0,z1,z2,z3⟩:=aF.out.cells
  have y0:=aF.out.frozen 0
  have y1:=aF.out.frozen 1
  have y2:=aF.out.frozen 2
  have y3:=aF.out.frozen 3
  have z9:=aF.out.lt
  go_simp
  obtain ⟨v11,hV⟩:=nmz (World.setCell (World.setCell (World.setCell (World.setCell v10 ⟨gx,0,none⟩ (.bool t3)) ⟨gx,1,none⟩ (.slice T3 m3 d3)) ⟨gx,2,none⟩ (.bool t4)) ⟨gx,3,none⟩ (.slice T4 m4 d4))
  rw [hV]
  have bQ:=hJ (show Below W.heap.size W v11 by rw [←hV]; exact below_box4 bJ.out (aM.out) _ _ _ _)
  have b_11:=hJ (show PF v11 sd Ad nd cd se Ae ne ce r s by rw [←hV]; exact PF.box4 (b_10.out) (aF.out) (.bool t3) (.slice T3 m3 d3) (.bool t4) (.slice T4 m4 d4))
  have N_11:=hJ (show PI v11 t1 T1 m1 d1 s by rw [←hV]; exact PIo.box4 (N_10.out) (aF.out) rfl rfl rfl rfl (.bool t3) (.slice T3 m3 d3) (.bool t4) (.slice T4 m4 d4))
  have R_11:=hJ (show PF v11 t3 T3 m3 d3 t4 T4 m4 d4 P Q by rw [←hV]; exact PF.box4 (R_10.out) (aF.out) (.bool t3) (.slice T3 m3 d3) (.bool t4) (.slice T4 m4 d4))
  have bV:=hJ (show P4 35 v11 gx (.bool t3) (.slice T3 m3 d3) (.bool t4) (.slice T4 m4 d4) by rw [←hV]; exact aF.out.all (.bool t3) (.slice T3 m3 d3) (.bool t4) (.slice T4 m4 d4))
  clear hHeld
  refine hK.out _ _ (HS.out _ bQ.out) (fun hHeld=>?_)
  clear hK K hV z9 z0 z1 z2 z3 y0 y1 y2 y3 bJ b_10 N_10 R_10 aF
  refine tq 10 ?_
  try simp only [PT]
  refine wpAnyH_done (by kernel_rfl) ?_ _
  clear hHeld
  go_wp2_with fail
  go_meet
  exact ⟨gx,t3,T3,m3,d3,t4,T4,m4,d4,rfl,rfl,bV.out,R_11.out,bQ.out⟩
 case rest =>
  obtain ⟨G,s1,A1,n1,c1,s2,A2,n2,c2,rfl,rfl,hq1,hr1,hbx⟩:=hcut
  have bW:=hJ hq1
  have bX:=hJ hr1
  have aS:=hJ hbx
  obtain ⟨x1,rfl⟩:=nm_world hbx
  clear hq1 hr1 hbx HS bM
  have bY:=hJ (aZ.out.new aS.out)
  have bZ:=hJ (bK.out.new aS.out)
  have aG:=hJ (bA.out.new aS.out)
  have bR:=hJ (bt HK.out aS.out)
  clear aZ bK aI bL bA bS HK aS
  by_cases hr0:r=0
  ·have HC:=hJ (show C=1 by rw [←aA.out.2.2,hr0]; rfl)
   have HV:=hJ (show dvP p q r s=0∧dvQ p q r s=1∧dvC p q r s=1 from ⟨if_pos hr0,if_pos hr0,if_pos hr0⟩)
   rw [HC.out]
   clear hr0 HC
   obtain ⟨z0,z1,z2,z3⟩:=aG.out.cells
   have f0:=aG.out.frozen 0
   have f1:=aG.out.frozen 1
   have f2:=aG.out.frozen 2
   have f3:=aG.out.frozen 3
   go_wp2
   exact bodyPost_ret (results_cell1 rfl _ _ _ _ _ _ _ rfl (aG.out.all (.bool false) (.slice none 0 0) (.bool false) (.slice none 0 0)) Tryz.underlying35 rfl F_size) rfl (by rw [HV.out.1,HV.out.2.1,HV.out.2.2]; exact RetFE.stored (p:=0) (q:=1) ⟨PI.zero _,PI.zero _⟩ aG.out bR.out (by rw [HH.out]; omega) _ _ _ _)
  ·have HC:=hJ (show C=0 by rw [←aA.out.2.2]; exact if_neg hr0)
   have HV:=hJ (show dvP p q r s=muP p q P Q∧dvQ p q r s=muQ p q P Q∧dvC p q r s=muC p q P Q by rw [←aA.out.1,←aA.out.2.1]; exact ⟨if_neg hr0,if_neg hr0,if_neg hr0⟩)
   have HM:=hJ (show 0 < Q∧P.natAbs < lim∧Q.natAbs < lim by rw [←aA.out.1,←aA.out.2.1]; exact ⟨mkQ_pos,mkPQ_lim aB.out.2.2.2.2.2 aB.out.2.2.2.2.1⟩)
   rw [HC.out]
   clear hr0 HC
   obtain ⟨a0,a1,a2,a3⟩:=bY.out.cells
   obtain ⟨g0,g1,g2,g3⟩:=bW.out.cells
   go_wp2_with fail
   refine (fmul_any p q P Q sa sb s1 s2 Aa Ab A1 A2 na ca nb cb n1 c1 n2 c2 x1 bZ.out bX.out aB.out.1 HM.out.1 aB.out.2.2.1 aB.out.2.2.2.1 HM.out.2.1 HM.out.2.2).mono ?_
   rintro e w3 ⟨s3,A3,n3,c3,s4,A4,n4,c4,rfl,hr3,hb3⟩
   have cA:=hJ hr3
   have cB:=hJ (bt bR.out hb3)
   have aH:=hJ (aG.out.new hb3)
   clear hr3 hb3 a0 a1 a2 a3 g0 g1 g2 g3
   obtain ⟨z0,z1,z2,z3⟩:=aH.out.cells
   have f0:=aH.out.frozen 0
   have f1:=aH.out.frozen 1
   have f2:=aH.out.frozen 2
   have f3:=aH.out.frozen 3
   go_wp2
   exact bodyPost_ret (results_cell1 rfl _ _ _ _ _ _ _ rfl (aH.out.all (.bool s3) (.slice A3 n3 c3) (.bool s4) (.slice A4 n4 c4)) Tryz.underlying35 rfl F_size) rfl (by rw [HV.out.1,HV.out.2.1,HV.out.2.2]; exact RetFE.stored cA.out aH.out cB.out (by rw [HH.out]; omega) _ _ _ _)

end Go.Proofs.YtagakcficjcfhaaGreat
