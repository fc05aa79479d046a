/- Contracts of the program's fractions: Mul. Conditions: as each statement has them. -/
import Derived.Test.YteggneaefggbmaaGreatFG
import Derived.Test.YteggneaefggbmaaGreatFD
import Derived.Deep.DeepCutAuto
namespace Go.Proofs.YteggneaefggbmaaGreat
set_option maxRecDepth 100000
set_option maxHeartbeats 12800000
open Go.RowKit
attribute [local go_sem ↓] Go.wp_at_zero Go.wp_at_succ
set_option linter.unusedVariables false
set_option linter.unusedSimpArgs false
def muA (x y:Int):Int:=((Nat.gcd x.natAbs y.natAbs:Nat):Int)
def muN (p q r s:Int):Int:=p / muA p s*(r / muA r q)
def muD (p q r s:Int):Int:=q / muA r q*(s / muA p s)
def muK (p q r s:Int):Prop:=(muN p q r s).natAbs < lim∧(muD p q r s).natAbs < lim
instance (p q r s:Int):Decidable (muK p q r s):=by unfold muK; infer_instance
def muP (p q r s:Int):Int:=if muK p q r s then muN p q r s else 0
def muQ (p q r s:Int):Int:=if muK p q r s then muD p q r s else 1
def muC (p q r s:Int):Int:=if muK p q r s then 0 else 4
theorem mu_one {x y:Int} (hy:0 < y) (hl:y.natAbs < lim):muA x y≠0∧(muA x y).natAbs < lim:=by
 have h1:=Nat.gcd_pos_of_pos_right x.natAbs (show 0 < y.natAbs by omega)
 have h2:=Nat.gcd_le_right x.natAbs (show 0 < y.natAbs by omega)
 exact ⟨by unfold muA; omega,by unfold muA; rw [Int.natAbs_natCast]; omega⟩
theorem ed_lim {x y:Int} (h:x.natAbs < lim):(x / y).natAbs < lim:=Nat.lt_of_le_of_lt (Int.natAbs_ediv_le_natAbs _ _) h
theorem mu_gcd {p q r s:Int} (h:0 < q∧0 < s∧p.natAbs < lim∧q.natAbs < lim∧r.natAbs < lim∧s.natAbs < lim):(muA p s≠0∧(muA p s).natAbs < lim)∧(muA r q≠0∧(muA r q).natAbs < lim)∧(p / muA p s).natAbs < lim∧(r / muA r q).natAbs < lim∧(q / muA r q).natAbs < lim∧(s / muA p s).natAbs < lim :=
 ⟨mu_one h.2.1 h.2.2.2.2.2,mu_one h.1 h.2.2.2.1,ed_lim h.2.2.1,ed_lim h.2.2.2.2.1,ed_lim h.2.2.2.1,ed_lim h.2.2.2.2.2⟩
theorem mu_codes {p q r s u v:Int} (hu:muA p s=u) (hv:muA r q=v) :
  (feV [outC (p / u*(r / v)),outC (q / v*(s / u))]=0→outV (p / u*(r / v))=p / u*(r / v)∧outV (q / v*(s / u))=q / v*(s / u)∧muP p q r s=p / u*(r / v)∧muQ p q r s=q / v*(s / u)∧muC p q r s=0) ∧
  (feV [outC (p / u*(r / v)),outC (q / v*(s / u))]≠0→muP p q r s=0∧muQ p q r s=1∧muC p q r s=4∧feV [outC (p / u*(r / v)),outC (q / v*(s / u))]=4):=by
 have eN:muN p q r s=p / u*(r / v):=by unfold muN; rw [hu,hv]
 have eD:muD p q r s=q / v*(s / u):=by unfold muD; rw [hu,hv]
 have eK:muK p q r s↔(p / u*(r / v)).natAbs < lim∧(q / v*(s / u)).natAbs < lim:=by unfold muK; rw [eN,eD]
 have yes:muK p q r s→muP p q r s=muN p q r s∧muQ p q r s=muD p q r s∧muC p q r s=0:=fun h=>⟨if_pos h,if_pos h,if_pos h⟩
 have no:¬ muK p q r s→muP p q r s=0∧muQ p q r s=1∧muC p q r s=4:=fun h=>⟨if_neg h,if_neg h,if_neg h⟩
 rw [eN,eD] at yes
 generalize p / u*(r / v)=x at *
 generalize q / v*(s / u)=y at *
 rcases outVC x with ⟨a1,a2,a3⟩ | ⟨a1,a2,a3⟩
 ·rcases outVC y with ⟨b1,b2,b3⟩ | ⟨b1,b2,b3⟩
  ·rw [a2,b2,a3,b3]
   exact ⟨fun _=>⟨rfl,rfl,yes (eK.2 ⟨a1,b1⟩)⟩,fun h=>absurd rfl h⟩
  rw [a3,b3]
  have n:=no (fun k=>b1 (eK.1 k).2)
  exact ⟨fun h=>by simp [feV] at h,fun _=>⟨n.1,n.2.1,n.2.2,by simp [feV]⟩⟩
 ·rw [a3]
  have n:=no (fun k=>a1 (eK.1 k).1)
  exact ⟨fun h=>by simp [feV] at h,fun _=>⟨n.1,n.2.1,n.2.2,by simp [feV]⟩⟩
theorem pel_bx {t:TypeId} {w:World} {g:Nat} {s:Bool} {A:Option Addr} {n c:Nat} {y:Int} (hb:BX t w g #[.bool s,.slice A n c]) (h:PI w s A n c y) (hy:y.natAbs < lim):Pel w g [y]:=by
 intro i hi
 match i,hi with
 | 0,_=>exact ⟨s,A,n,c,hb.cell 0 rfl,hb.cell 1 rfl,h,hy⟩
theorem codes_bx {t:TypeId} {w:World} {g:Nat} {a b:Int} (hb:BX t w g #[.int .i64 a,.int .i64 b]):Codes w g [a,b]:=by
 intro i hi
 match i,hi with
 | 0,_=>exact hb.cell 0 rfl
 | 1,_=>exact hb.cell 1 rfl
theorem pv_b1 (x y:Int):pvV x [y]=outV (x*y):=by unfold pvV outV; split <;> rfl
theorem pc_b1 (x y:Int):pvC x [y]=outC (x*y):=by unfold pvC outC; split <;> rfl
theorem mul_lim0 {p q r s u v:Int} (h:feV [outC (p / u*(r / v)),outC (q / v*(s / u))]=0) (_:muA p s=u) (_:muA r q=v):(q / v*(s / u)).natAbs < lim:=by
 unfold feV at h
 by_cases c1:outC (p / u*(r / v))=0
 ·rw [if_pos c1] at h
  unfold feV at h
  by_cases c2:outC (q / v*(s / u))=0
  ·rcases outVC (q / v*(s / u)) with ⟨a1,_,_⟩ | ⟨_,_,a3⟩
   ·exact a1
   rw [a3] at c2
   cases c2
  rw [if_neg c2] at h
  exact absurd h c2
 ·rw [if_neg c1] at h
  exact absurd h c1
theorem fmul_any (p q r s:Int) (sa sb sd se:Bool) (Aa Ab Ad Ae:Option Addr) (na ca nb cb nd cd ne ce:Nat) (w:World) (hx:PF w sa Aa na ca sb Ab nb cb p q) (hy:PF w sd Ad nd cd se Ae ne ce r s) (hq:0 < q) (hs:0 < s) (hlp:p.natAbs < lim) (hlq:q.natAbs < lim) (hlr:r.natAbs < lim) (hls:s.natAbs < lim) :
  Calls Tryz.prog 100 #[.agg #[.bool sa,.slice Aa na ca,.bool sb,.slice Ab nb cb],.agg #[.bool sd,.slice Ad nd cd,.bool se,.slice Ae ne ce]] w (RetFE (muP p q r s) (muQ p q r s) (muC p q r s) w):=by
 have mM:=hJ hx
 have mN:=hJ hy
 have aH:=hJ (show 0 < q∧0 < s∧p.natAbs < lim∧q.natAbs < lim∧r.natAbs < lim∧s.natAbs < lim from ⟨hq,hs,hlp,hlq,hlr,hls⟩)
 have aM:=hJ (mu_gcd (p:=p) (r:=r) aH.out)
 clear hx hy hq hs hlp hlq hlr hls
 obtain ⟨gu,hu⟩:=nmz (muA p s)
 obtain ⟨gv,hv⟩:=nmz (muA r q)
 have HU:=hJ hu
 have cG:=hJ hv
 rw [hu,hv] at aM
 clear hu hv
 obtain ⟨x,hxc⟩:=nmz (feV [outC (p / gu*(r / gv)),outC (q / gv*(s / gu))])
 have hX:=hJ hxc
 have cQ:=hJ (mu_codes (p:=p) (q:=q) (r:=r) (s:=s) HU.out cG.out)
 rw [hxc] at cQ
 clear hxc
 obtain ⟨x1,cR⟩:=nmz (((w.alloc (.cells #[.bool sa,.slice Aa na ca,.bool sb,.slice Ab nb cb] 27)).alloc (.cells #[.bool sd,.slice Ad nd cd,.bool se,.slice Ae ne ce] 27)).alloc (.cells #[.bool false,.slice none 0 0,.bool false,.slice none 0 0] 27))
 have dL:=hJ (show Below w.heap.size w x1 by rw [←cR]; exact ((((Below.refl _ _).alloc (Nat.le_refl _) _).alloc (by simp only [World.size_alloc]; omega) _).alloc (by simp only [World.size_alloc]; omega) _))
 have cS:=hJ (show BX 27 x1 w.heap.size #[.bool sa,.slice Aa na ca,.bool sb,.slice Ab nb cb] by rw [←cR]; exact (((BX.at rfl).alloc _).alloc _))
 have cT:=hJ (show BX 27 x1 (w.heap.size+1) #[.bool sd,.slice Ad nd cd,.bool se,.slice Ae ne ce] by rw [←cR]; exact ((BX.at (by simp only [World.size_alloc])).alloc _))
 have hY:=hJ (show BX 27 x1 (w.heap.size+2) #[.bool false,.slice none 0 0,.bool false,.slice none 0 0] by rw [←cR]; exact (BX.at (by simp only [World.size_alloc])))
 have hZ:=hJ (show w.heap.size≤w.heap.size+2 by omega)
 have aK:Hid (∀ w',Below x1.heap.size x1 w'→(fun w':World=>w'.cell? ⟨w.heap.size,0,none⟩=some (.bool sa)∧w'.cell? ⟨w.heap.size,1,none⟩=some (.slice Aa na ca)∧w'.cell? ⟨w.heap.size,2,none⟩=some (.bool sb)∧w'.cell? ⟨w.heap.size,3,none⟩=some (.slice Ab nb cb)∧w'.cell? ⟨w.heap.size+1,0,none⟩=some (.bool sd)∧w'.cell? ⟨w.heap.size+1,1,none⟩=some (.slice Ad nd cd)∧w'.cell? ⟨w.heap.size+1,2,none⟩=some (.bool se)∧w'.cell? ⟨w.heap.size+1,3,none⟩=some (.slice Ae ne ce)∧Below x1.heap.size x1 w') w'):=hJ (fun w' hb=>⟨(BX.new cS.out hb).cell 0 rfl,(BX.new cS.out hb).cell 1 rfl,(BX.new cS.out hb).cell 2 rfl,(BX.new cS.out hb).cell 3 rfl,(BX.new cT.out hb).cell 0 rfl,(BX.new cT.out hb).cell 1 rfl,(BX.new cT.out hb).cell 2 rfl,(BX.new cT.out hb).cell 3 rfl,hb⟩)
 have bL:=hJ (PF.new mM.out dL.out)
 have bM:=hJ (PF.new mN.out dL.out)
 go_enter Tryz.func100,Tryz.ntmps100
 go_wp2_with fail
 clear cR
 obtain ⟨v2,hv2⟩:=nmz (World.drew x1)
 have cA:=hJ (show Below x1.heap.size x1 v2 by rw [←hv2]; exact (Below.refl _ _).drew)
 refine whd aK hv2 (fun hHeld=>?_)
 clear hv2
 refine tq 0 ?_
 refine tq 2 ?_
 try simp only [PT]
 refine wpAnyH_name (fun F hF a0 ha0 L0 hL0=>?_)
 have cH:∀ (s11:Bool) (A11:Option Addr) (n11:Nat) (c11:Nat) (s12:Bool) (A12:Option Addr) (n12:Nat) (c12:Nat) (aB:Nat) (aC:Nat) (v:World),Hid (Below x1.heap.size x1 v)→Hid (PI v s11 A11 n11 c11 q)→Hid (PI v s12 A12 n12 c12 s)→Hid (BX 25 v aB #[.bool false,.slice none 0 0])→Hid (x1.heap.size≤aB)→Hid (BX 25 v aC #[.bool false,.slice none 0 0])→Hid (x1.heap.size≤aC)→Hid (aB≠aC)→F 2 (Array.setIfInBounds (Array.setIfInBounds (Array.setIfInBounds (Array.setIfInBounds L0 1 true) 3 true) 4 true) 5 true) (Act.put (Act.put (Act.put (Act.put a0 (some 16) (.agg #[.bool s11,.slice A11 n11 c11])) (some 18) (.agg #[.bool s12,.slice A12 n12 c12])) (some 6) (.pointer (some ⟨aB,0,none⟩))) (some 7) (.pointer (some ⟨aC,0,none⟩))) v:=by
  intro s11 A11 n11 c11 s12 A12 n12 c12 aB aC v aA aR bW aP bB aV bC cI
  subst hF ha0 hL0
  simp only [PT] at  ⊢
  have hHeld:=aK.out _ aA.out
  refine ryy [6] ?_
  refine .cons rfl (fun K hK=>?_) .nil
  have z3_0:=aP.out.cell 0 rfl
  have y3_0:=aP.out.frozen 0
  have z3_1:=aP.out.cell 1 rfl
  have y3_1:=aP.out.frozen 1
  have z3:=aP.out.lt
  go_simp
  obtain ⟨v3,hV⟩:=nmz (World.setCell (World.setCell v ⟨aB,0,none⟩ (.bool s11)) ⟨aB,1,none⟩ (.slice A11 n11 c11))
  rw [hV]
  have cU:=hJ (show sto v aB 0 [.bool s11,.slice A11 n11 c11]=v3 from hV)
  clear hV z3 z3_0 y3_0 z3_1 y3_1
  have iA:=hJ (show Below x1.heap.size x1 v3 by rw [←cU.out]; exact below_sto aA.out bB.out _ _)
  have mO:=hJ (show PI v3 s11 A11 n11 c11 q by rw [←cU.out]; exact PIo.sto aR.out aP.out rfl _ _)
  have mP:=hJ (show PI v3 s12 A12 n12 c12 s by rw [←cU.out]; exact PIo.sto bW.out aP.out rfl _ _)
  have bX:=hJ (show BX 25 v3 aC #[.bool false,.slice none 0 0] by rw [←cU.out]; exact BX.far aV.out cI.out.symm _ _)
  have mQ:=hJ (show BX 25 v3 aB #[.bool s11,.slice A11 n11 c11] by rw [←cU.out]; exact BX.put aP.out _ _)
  clear hHeld
  refine hK.out _ _ (aK.out _ iA.out) (fun hHeld=>?_)
  clear hK K
  try simp only [PT]
  refine ryy [7] ?_
  refine .cons rfl (fun K hK=>?_) .nil
  have z4_0:=bX.out.cell 0 rfl
  have y4_0:=bX.out.frozen 0
  have z4_1:=bX.out.cell 1 rfl
  have y4_1:=bX.out.frozen 1
  have z4:=bX.out.lt
  go_simp
  obtain ⟨v4,hV⟩:=nmz (World.setCell (World.setCell v3 ⟨aC,0,none⟩ (.bool s12)) ⟨aC,1,none⟩ (.slice A12 n12 c12))
  rw [hV]
  have cV:=hJ (show sto v3 aC 0 [.bool s12,.slice A12 n12 c12]=v4 from hV)
  clear hV z4 z4_0 y4_0 z4_1 y4_1
  have bN:=hJ (show Below x1.heap.size x1 v4 by rw [←cV.out]; exact below_sto iA.out bC.out _ _)
  have bO:=hJ (show PI v4 s11 A11 n11 c11 q by rw [←cV.out]; exact PIo.sto mO.out bX.out rfl _ _)
  have bP:=hJ (show PI v4 s12 A12 n12 c12 s by rw [←cV.out]; exact PIo.sto mP.out bX.out rfl _ _)
  have fC:=hJ (show BX 25 v4 aB #[.bool s11,.slice A11 n11 c11] by rw [←cV.out]; exact BX.far mQ.out cI.out _ _)
  have fD:=hJ (show BX 25 v4 aC #[.bool s12,.slice A12 n12 c12] by rw [←cV.out]; exact BX.put bX.out _ _)
  clear hHeld
  refine hK.out _ _ (aK.out _ bN.out) (fun hHeld=>?_)
  clear hK K
  try simp only [PT]
  refine wpAnyH_done (by kernel_rfl) ?_ _
  clear hHeld
  have fE:=hJ (BX.new cS.out bN.out)
  have fF:=hJ (BX.new cT.out bN.out)
  have aL:Hid (∀ w',Below v4.heap.size v4 w'→(fun w':World=>w'.cell? ⟨w.heap.size,0,none⟩=some (.bool sa)∧w'.cell? ⟨w.heap.size,1,none⟩=some (.slice Aa na ca)∧w'.cell? ⟨aC,0,none⟩=some (.bool s12)∧w'.cell? ⟨aC,1,none⟩=some (.slice A12 n12 c12)∧w'.cell? ⟨w.heap.size+1,0,none⟩=some (.bool sd)∧w'.cell? ⟨w.heap.size+1,1,none⟩=some (.slice Ad nd cd)∧w'.cell? ⟨aB,0,none⟩=some (.bool s11)∧w'.cell? ⟨aB,1,none⟩=some (.slice A11 n11 c11)∧Below v4.heap.size v4 w') w'):=hJ (fun w' hb=>⟨(BX.new fE.out hb).cell 0 rfl,(BX.new fE.out hb).cell 1 rfl,(BX.new fD.out hb).cell 0 rfl,(BX.new fD.out hb).cell 1 rfl,(BX.new fF.out hb).cell 0 rfl,(BX.new fF.out hb).cell 1 rfl,(BX.new fC.out hb).cell 0 rfl,(BX.new fC.out hb).cell 1 rfl,hb⟩)
  have bQ:=hJ (PF.new bL.out bN.out)
  have bR:=hJ (PF.new bM.out bN.out)
  go_wp2_with fail
  obtain ⟨v7,hv7⟩:=nmz (World.drew v4)
  have bS:=hJ (show Below v4.heap.size v4 v7 by rw [←hv7]; exact (Below.refl _ _).drew)
  refine whd aL hv7 (fun hHeld=>?_)
  clear hv7
  refine tq 0 ?_
  refine tq 1 ?_
  refine tq 2 ?_
  refine tq 4 ?_
  refine tq 5 ?_
  refine tq 6 ?_
  try simp only [PT]
  refine wpAnyH_name (fun F hF a0 ha0 L0 hL0=>?_)
  have cJ:∀ (s13:Bool) (A13:Option Addr) (n13:Nat) (c13:Nat) (s14:Bool) (A14:Option Addr) (n14:Nat) (c14:Nat) (aD:Nat) (aE:Nat) (v:World),Hid (Below v4.heap.size v4 v)→Hid (PI v s13 A13 n13 c13 gu)→Hid (PI v s14 A14 n14 c14 gv)→Hid (BX 25 v aD #[.bool false,.slice none 0 0])→Hid (v4.heap.size≤aD)→Hid (BX 25 v aE #[.bool false,.slice none 0 0])→Hid (v4.heap.size≤aE)→Hid (aD≠aE)→F 2 (Array.setIfInBounds (Array.setIfInBounds (Array.setIfInBounds (Array.setIfInBounds L0 3 true) 7 true) 8 true) 9 true) (Act.put (Act.put (Act.put (Act.put a0 (some 22) (.agg #[.bool s13,.slice A13 n13 c13])) (some 26) (.agg #[.bool s14,.slice A14 n14 c14])) (some 8) (.pointer (some ⟨aD,0,none⟩))) (some 9) (.pointer (some ⟨aE,0,none⟩))) v:=by
   intro s13 A13 n13 c13 s14 A14 n14 c14 aD aE v aA aS bY aQ bD aW bE cK
   subst hF ha0 hL0
   simp only [PT] at  ⊢
   have hHeld:=aL.out _ aA.out
   refine ryy [10] ?_
   refine .cons rfl (fun K hK=>?_) .nil
   have z8_0:=aQ.out.cell 0 rfl
   have y8_0:=aQ.out.frozen 0
   have z8_1:=aQ.out.cell 1 rfl
   have y8_1:=aQ.out.frozen 1
   have z8:=aQ.out.lt
   go_simp
   obtain ⟨v8,hV⟩:=nmz (World.setCell (World.setCell v ⟨aD,0,none⟩ (.bool s13)) ⟨aD,1,none⟩ (.slice A13 n13 c13))
   rw [hV]
   have cW:=hJ (show sto v aD 0 [.bool s13,.slice A13 n13 c13]=v8 from hV)
   clear hV z8 z8_0 y8_0 z8_1 y8_1
   have iB:=hJ (show Below v4.heap.size v4 v8 by rw [←cW.out]; exact below_sto aA.out bD.out _ _)
   have mR:=hJ (show PI v8 s13 A13 n13 c13 gu by rw [←cW.out]; exact PIo.sto aS.out aQ.out rfl _ _)
   have mS:=hJ (show PI v8 s14 A14 n14 c14 gv by rw [←cW.out]; exact PIo.sto bY.out aQ.out rfl _ _)
   have bZ:=hJ (show BX 25 v8 aE #[.bool false,.slice none 0 0] by rw [←cW.out]; exact BX.far aW.out cK.out.symm _ _)
   have mT:=hJ (show BX 25 v8 aD #[.bool s13,.slice A13 n13 c13] by rw [←cW.out]; exact BX.put aQ.out _ _)
   clear hHeld
   refine hK.out _ _ (aL.out _ iB.out) (fun hHeld=>?_)
   clear hK K
   try simp only [PT]
   refine ryy [11] ?_
   refine .cons rfl (fun K hK=>?_) .nil
   have z9_0:=bZ.out.cell 0 rfl
   have y9_0:=bZ.out.frozen 0
   have z9_1:=bZ.out.cell 1 rfl
   have y9_1:=bZ.out.frozen 1
   have z9:=bZ.out.lt
   go_simp
   obtain ⟨v9,hV⟩:=nmz (World.setCell (World.setCell v8 ⟨aE,0,none⟩ (.bool s14)) ⟨aE,1,none⟩ (.slice A14 n14 c14))
   rw [hV]
   have cX:=hJ (show sto v8 aE 0 [.bool s14,.slice A14 n14 c14]=v9 from hV)
   clear hV z9 z9_0 y9_0 z9_1 y9_1
   have bH:=hJ (show Below v4.heap.size v4 v9 by rw [←cX.out]; exact below_sto iB.out bE.out _ _)
   have cY:=hJ (show PI v9 s13 A13 n13 c13 gu by rw [←cX.out]; exact PIo.sto mR.out bZ.out rfl _ _)
   have cZ:=hJ (show PI v9 s14 A14 n14 c14 gv by rw [←cX.out]; exact PIo.sto mS.out bZ.out rfl _ _)
   have fG:=hJ (show BX 25 v9 aD #[.bool s13,.slice A13 n13 c13] by rw [←cX.out]; exact BX.far mT.out cK.out _ _)
   have fH:=hJ (show BX 25 v9 aE #[.bool s14,.slice A14 n14 c14] by rw [←cX.out]; exact BX.put bZ.out _ _)
   clear hHeld
   refine hK.out _ _ (aL.out _ bH.out) (fun hHeld=>?_)
   clear hK K
   try simp only [PT]
   refine wpAnyH_done (by kernel_rfl) ?_ _
   clear hHeld
   have iC:=hJ (BX.new fE.out bH.out)
   have iD:=hJ (BX.new fF.out bH.out)
   have aN:Hid (∀ w',Below v9.heap.size v9 w'→(fun w':World=>w'.cell? ⟨w.heap.size,0,none⟩=some (.bool sa)∧w'.cell? ⟨w.heap.size,1,none⟩=some (.slice Aa na ca)∧w'.cell? ⟨aD,0,none⟩=some (.bool s13)∧w'.cell? ⟨aD,1,none⟩=some (.slice A13 n13 c13)∧w'.cell? ⟨w.heap.size+1,0,none⟩=some (.bool sd)∧w'.cell? ⟨w.heap.size+1,1,none⟩=some (.slice Ad nd cd)∧w'.cell? ⟨aE,0,none⟩=some (.bool s14)∧w'.cell? ⟨aE,1,none⟩=some (.slice A14 n14 c14)∧Below v9.heap.size v9 w') w'):=hJ (fun w' hb=>⟨(BX.new iC.out hb).cell 0 rfl,(BX.new iC.out hb).cell 1 rfl,(BX.new fG.out hb).cell 0 rfl,(BX.new fG.out hb).cell 1 rfl,(BX.new iD.out hb).cell 0 rfl,(BX.new iD.out hb).cell 1 rfl,(BX.new fH.out hb).cell 0 rfl,(BX.new fH.out hb).cell 1 rfl,hb⟩)
   have dM:=hJ (PF.new bQ.out bH.out)
   have dN:=hJ (PF.new bR.out bH.out)
   go_wp2_with fail
   obtain ⟨v12,hv12⟩:=nmz (World.drew v9)
   have cB:=hJ (show Below v9.heap.size v9 v12 by rw [←hv12]; exact (Below.refl _ _).drew)
   refine whd aN hv12 (fun hHeld=>?_)
   clear hv12
   refine tq 0 ?_
   refine tq 1 ?_
   refine tq 2 ?_
   refine tq 4 ?_
   refine tq 5 ?_
   refine tq 6 ?_
   try simp only [PT]
   refine wpAnyH_name (fun F hF a0 ha0 L0 hL0=>?_)
   have dO:∀ (s15:Bool) (A15:Option Addr) (n15:Nat) (c15:Nat) (s16:Bool) (A16:Option Addr) (n16:Nat) (c16:Nat) (aI:Nat) (s18:Bool) (A18:Option Addr) (n18:Nat) (c18:Nat) (aF:Nat) (v:World),Hid (Below v9.heap.size v9 v)→Hid (PI v s15 A15 n15 c15 (p / gu))→Hid (PI v s16 A16 n16 c16 (r / gv))→Hid (BX 25 v aI #[.bool s16,.slice A16 n16 c16])→Hid (v9.heap.size≤aI)→Hid (PI v s18 A18 n18 c18 (outV (p / gu*(r / gv))))→Hid (BX 25 v aF #[.bool false,.slice none 0 0])→Hid (v9.heap.size≤aF)→Hid (aI≠aF)→F 2 (Array.setIfInBounds (Array.setIfInBounds (Array.setIfInBounds (Array.setIfInBounds (Array.setIfInBounds (Array.setIfInBounds (Array.setIfInBounds (Array.setIfInBounds L0 3 true) 7 true) 8 true) 9 true) 13 true) 10 true) 11 true) 12 true) (Act.put (Act.put (Act.put (Act.put (Act.put (Act.put (Act.put (Act.put a0 (some 31) (.agg #[.bool s15,.slice A15 n15 c15])) (some 35) (.agg #[.bool s16,.slice A16 n16 c16])) (some 36) (.slice (some ⟨aI,0,none⟩) 1 1)) (some 37) (.tuple #[.agg #[.bool s18,.slice A18 n18 c18],.int .i64 (outC (p / gu*(r / gv)))])) (some 10) (.pointer (some ⟨aF,0,none⟩))) (some 27) (.tuple #[.agg #[.bool s18,.slice A18 n18 c18],.int .i64 (outC (p / gu*(r / gv)))])) (some 38) (.agg #[.bool s18,.slice A18 n18 c18])) (some 39) (.int .i64 (outC (p / gu*(r / gv))))) v:=by
    intro s15 A15 n15 c15 s16 A16 n16 c16 aI s18 A18 n18 c18 aF v aA aT aZ bF cC fI aX bT iE
    subst hF ha0 hL0
    simp only [PT] at  ⊢
    have hHeld:=aN.out _ aA.out
    refine ryy [14] ?_
    refine .cons rfl (fun K hK=>?_) .nil
    have z13_0:=aX.out.cell 0 rfl
    have y13_0:=aX.out.frozen 0
    have z13_1:=aX.out.cell 1 rfl
    have y13_1:=aX.out.frozen 1
    have z13:=aX.out.lt
    go_simp
    obtain ⟨v13,hV⟩:=nmz (World.setCell (World.setCell v ⟨aF,0,none⟩ (.bool s18)) ⟨aF,1,none⟩ (.slice A18 n18 c18))
    rw [hV]
    have fJ:=hJ (show sto v aF 0 [.bool s18,.slice A18 n18 c18]=v13 from hV)
    clear hV z13 z13_0 y13_0 z13_1 y13_1
    have bJ:=hJ (show Below v9.heap.size v9 v13 by rw [←fJ.out]; exact below_sto aA.out bT.out _ _)
    have mU:=hJ (show PI v13 s18 A18 n18 c18 (outV (p / gu*(r / gv))) by rw [←fJ.out]; exact PIo.sto fI.out aX.out rfl _ _)
    have mV:=hJ (show BX 25 v13 aF #[.bool s18,.slice A18 n18 c18] by rw [←fJ.out]; exact BX.put aX.out _ _)
    clear hHeld
    refine hK.out _ _ (aN.out _ bJ.out) (fun hHeld=>?_)
    clear hK K
    refine tq 15 ?_
    try simp only [PT]
    refine wpAnyH_done (by kernel_rfl) ?_ _
    clear hHeld
    have dP:=hJ (bt bH.out bJ.out)
    have iF:=hJ (BX.new fC.out dP.out)
    have iG:=hJ (BX.new fH.out bJ.out)
    have iH:=hJ (BX.new fD.out dP.out)
    have iI:=hJ (BX.new fG.out bJ.out)
    have aO:Hid (∀ w',Below v13.heap.size v13 w'→(fun w':World=>w'.cell? ⟨aB,0,none⟩=some (.bool s11)∧w'.cell? ⟨aB,1,none⟩=some (.slice A11 n11 c11)∧w'.cell? ⟨aE,0,none⟩=some (.bool s14)∧w'.cell? ⟨aE,1,none⟩=some (.slice A14 n14 c14)∧w'.cell? ⟨aC,0,none⟩=some (.bool s12)∧w'.cell? ⟨aC,1,none⟩=some (.slice A12 n12 c12)∧w'.cell? ⟨aD,0,none⟩=some (.bool s13)∧w'.cell? ⟨aD,1,none⟩=some (.slice A13 n13 c13)∧Below v13.heap.size v13 w') w'):=hJ (fun w' hb=>⟨(BX.new iF.out hb).cell 0 rfl,(BX.new iF.out hb).cell 1 rfl,(BX.new iG.out hb).cell 0 rfl,(BX.new iG.out hb).cell 1 rfl,(BX.new iH.out hb).cell 0 rfl,(BX.new iH.out hb).cell 1 rfl,(BX.new iI.out hb).cell 0 rfl,(BX.new iI.out hb).cell 1 rfl,hb⟩)
    have dQ:=hJ (PIo.new bO.out dP.out)
    have dR:=hJ (PIo.new cZ.out bJ.out)
    have dS:=hJ (PIo.new bP.out dP.out)
    have dT:=hJ (PIo.new cY.out bJ.out)
    go_wp2_with fail
    obtain ⟨v16,hv16⟩:=nmz (World.drew v13)
    have cD:=hJ (show Below v13.heap.size v13 v16 by rw [←hv16]; exact (Below.refl _ _).drew)
    refine whd aO hv16 (fun hHeld=>?_)
    clear hv16
    refine tq 0 ?_
    refine tq 1 ?_
    refine tq 3 ?_
    refine tq 4 ?_
    try simp only [PT]
    refine wpAnyH_name (fun F hF a0 ha0 L0 hL0=>?_)
    have dU:∀ (s19:Bool) (A19:Option Addr) (n19:Nat) (c19:Nat) (s20:Bool) (A20:Option Addr) (n20:Nat) (c20:Nat) (aJ:Nat) (s22:Bool) (A22:Option Addr) (n22:Nat) (c22:Nat) (aG:Nat) (v:World),Hid (Below v13.heap.size v13 v)→Hid (PI v s19 A19 n19 c19 (q / gv))→Hid (PI v s20 A20 n20 c20 (s / gu))→Hid (BX 25 v aJ #[.bool s20,.slice A20 n20 c20])→Hid (v13.heap.size≤aJ)→Hid (PI v s22 A22 n22 c22 (outV (q / gv*(s / gu))))→Hid (BX 25 v aG #[.bool false,.slice none 0 0])→Hid (v13.heap.size≤aG)→Hid (aJ≠aG)→F 2 (Array.setIfInBounds (Array.setIfInBounds (Array.setIfInBounds (Array.setIfInBounds (Array.setIfInBounds (Array.setIfInBounds (Array.setIfInBounds (Array.setIfInBounds L0 2 true) 5 true) 6 true) 7 true) 11 true) 8 true) 9 true) 10 true) (Act.put (Act.put (Act.put (Act.put (Act.put (Act.put (Act.put (Act.put a0 (some 43) (.agg #[.bool s19,.slice A19 n19 c19])) (some 46) (.agg #[.bool s20,.slice A20 n20 c20])) (some 47) (.slice (some ⟨aJ,0,none⟩) 1 1)) (some 48) (.tuple #[.agg #[.bool s22,.slice A22 n22 c22],.int .i64 (outC (q / gv*(s / gu)))])) (some 12) (.pointer (some ⟨aG,0,none⟩))) (some 40) (.tuple #[.agg #[.bool s22,.slice A22 n22 c22],.int .i64 (outC (q / gv*(s / gu)))])) (some 49) (.agg #[.bool s22,.slice A22 n22 c22])) (some 50) (.int .i64 (outC (q / gv*(s / gu))))) v:=by
     intro s19 A19 n19 c19 s20 A20 n20 c20 aJ s22 A22 n22 c22 aG v aA aU bA bG cE fK aY bU iJ
     subst hF ha0 hL0
     simp only [PT] at  ⊢
     have hHeld:=aO.out _ aA.out
     refine ryy [12] ?_
     refine .cons rfl (fun K hK=>?_) .nil
     have z17_0:=aY.out.cell 0 rfl
     have y17_0:=aY.out.frozen 0
     have z17_1:=aY.out.cell 1 rfl
     have y17_1:=aY.out.frozen 1
     have z17:=aY.out.lt
     go_simp
     obtain ⟨v17,hV⟩:=nmz (World.setCell (World.setCell v ⟨aG,0,none⟩ (.bool s22)) ⟨aG,1,none⟩ (.slice A22 n22 c22))
     rw [hV]
     have fL:=hJ (show sto v aG 0 [.bool s22,.slice A22 n22 c22]=v17 from hV)
     clear hV z17 z17_0 y17_0 z17_1 y17_1
     have cL:=hJ (show Below v13.heap.size v13 v17 by rw [←fL.out]; exact below_sto aA.out bU.out _ _)
     have mW:=hJ (show PI v17 s22 A22 n22 c22 (outV (q / gv*(s / gu))) by rw [←fL.out]; exact PIo.sto fK.out aY.out rfl _ _)
     have mX:=hJ (show BX 25 v17 aG #[.bool s22,.slice A22 n22 c22] by rw [←fL.out]; exact BX.put aY.out _ _)
     clear hHeld
     refine hK.out _ _ (aO.out _ cL.out) (fun hHeld=>?_)
     clear hK K
     refine tq 13 ?_
     try simp only [PT]
     refine wpAnyH_done (by kernel_rfl) ?_ _
     clear hHeld
     obtain ⟨x20,fM⟩:=nmz (v17.alloc (.cells #[.int .i64 (outC (p / gu*(r / gv))),.int .i64 (outC (q / gv*(s / gu)))] 40))
     have cF:=hJ (show Below v17.heap.size v17 x20 by rw [←fM]; exact ((Below.refl _ _).alloc (Nat.le_refl _) _))
     have mY:=hJ (show BX 40 x20 v17.heap.size #[.int .i64 (outC (p / gu*(r / gv))),.int .i64 (outC (q / gv*(s / gu)))] by rw [←fM]; exact (BX.at rfl))
     go_wp2_with fail
     clear fM
     refine (ferror_any [outC (p / gu*(r / gv)),outC (q / gv*(s / gu))] v17.heap.size 2 x20 (codes_bx mY.out) rfl (by decide)).mono ?_
     rw [hX.out]
     rintro e w21 ⟨rfl,rfl⟩
     by_cases fN:x=0
     ·subst fN
      have HE:=hJ (cQ.out.1 rfl)
      clear cQ
      have iK:=hJ (bt cL.out cF.out)
      have mZ:=hJ (PIo.new mU.out iK.out)
      have nA:=hJ (PIo.new mW.out cF.out)
      have nB:=hJ (show PI x20 s18 A18 n18 c18 (p / gu*(r / gv)) by have h:=mZ.out; rw [HE.out.1] at h; exact h)
      have iL:=hJ (show PI x20 s22 A22 n22 c22 (q / gv*(s / gu)) by have h:=nA.out; rw [HE.out.2.1] at h; exact h)
      have nC:=hJ (show (q / gv*(s / gu)).natAbs < lim from mul_lim0 hX.out HU.out cG.out)
      have nD:=hJ (BX.new mV.out iK.out)
      obtain ⟨nE,nF⟩:=nD.out.c2 0 1 rfl rfl
      have nG:=hJ (BX.new mX.out cF.out)
      obtain ⟨nH,nJ⟩:=nG.out.c2 0 1 rfl rfl
      go_wp2_with fail
      clear nE nF nH nJ
      refine (flowest_any (p / gu*(r / gv)) (q / gv*(s / gu)) s18 s22 A18 A22 n18 c18 n22 c22 x20 nB.out iL.out (Nat.le_trans (plim iL.out nC.out) (by decide))).mono ?_
      rw [←HE.out.2.2.1,←HE.out.2.2.2.1]
      rintro e w26 ⟨s23,A23,n23,c23,t23,B23,m23,d23,rfl,hr23,hb⟩
      have iM:=hJ hb
      have nK:=hJ hr23
      clear hb hr23
      have nL:=hJ (bt (bt (bt (bt (bt bN.out bH.out) bJ.out) cL.out) cF.out) iM.out)
      have bK:=hJ (BX.new hY.out nL.out)
      have nM:=bK.out.frozen 0
      have nN:=bK.out.cell 0 rfl
      have nO:=bK.out.frozen 1
      have nP:=bK.out.cell 1 rfl
      have nQ:=bK.out.frozen 2
      have nR:=bK.out.cell 2 rfl
      have nS:=bK.out.frozen 3
      have nT:=bK.out.cell 3 rfl
      obtain ⟨x27,iN⟩:=nmz (World.setCell (World.setCell (World.setCell (World.setCell w26 ⟨w.heap.size+2,0,none⟩ (.bool s23)) ⟨w.heap.size+2,1,none⟩ (.slice A23 n23 c23)) ⟨w.heap.size+2,2,none⟩ (.bool t23)) ⟨w.heap.size+2,3,none⟩ (.slice B23 m23 d23))
      have fO:=hJ (show sto w26 (w.heap.size+2) 0 [.bool s23,.slice A23 n23 c23,.bool t23,.slice B23 m23 d23]=x27 from iN)
      have nU:=hJ (show BX 27 x27 (w.heap.size+2) #[.bool s23,.slice A23 n23 c23,.bool t23,.slice B23 m23 d23] by rw [←fO.out]; exact BX.put bK.out _ _)
      have nV:=hJ (show Below w.heap.size w x27 by rw [←fO.out]; exact below_sto (bt (bt (bt (bt (bt (bt dL.out bN.out) bH.out) bJ.out) cL.out) cF.out) iM.out) hZ.out _ _)
      have nW:=hJ (show PF x27 s23 A23 n23 c23 t23 B23 m23 d23 (muP p q r s) (muQ p q r s) by rw [←fO.out]; exact PF.sto nK.out bK.out rfl _ _)
      go_wp2
      clear nM nN nO nP nQ nR nS nT iN
      exact bodyPost_ret (results_cell1 rfl _ _ _ _ _ _ _ rfl nU.out Tryz.underlying27 rfl F_size) rfl (by rw [HE.out.2.2.2.2]; exact ⟨s23,A23,n23,c23,t23,B23,m23,d23,rfl,nW.out,nV.out⟩)
     have HE:=hJ (cQ.out.2 fN)
     obtain rfl:x=4:=HE.out.2.2.2
     clear fN cQ
     have nX:=hJ (bt (bt (bt (bt bN.out bH.out) bJ.out) cL.out) cF.out)
     have bV:=hJ (BX.new hY.out nX.out)
     have nY:=bV.out.frozen 0
     have nZ:=bV.out.cell 0 rfl
     have oA:=bV.out.frozen 1
     have oB:=bV.out.cell 1 rfl
     have oC:=bV.out.frozen 2
     have oD:=bV.out.cell 2 rfl
     have oE:=bV.out.frozen 3
     have oF:=bV.out.cell 3 rfl
     obtain ⟨x28,iO⟩:=nmz (World.setCell (World.setCell (World.setCell (World.setCell x20 ⟨w.heap.size+2,0,none⟩ (.bool false)) ⟨w.heap.size+2,1,none⟩ (.slice none 0 0)) ⟨w.heap.size+2,2,none⟩ (.bool false)) ⟨w.heap.size+2,3,none⟩ (.slice none 0 0))
     have iP:=hJ (show sto x20 (w.heap.size+2) 0 [.bool false,.slice none 0 0,.bool false,.slice none 0 0]=x28 from iO)
     have oG:=hJ (show BX 27 x28 (w.heap.size+2) #[.bool false,.slice none 0 0,.bool false,.slice none 0 0] by rw [←iP.out]; exact BX.put bV.out _ _)
     have oH:=hJ (show Below w.heap.size w x28 by rw [←iP.out]; exact below_sto (bt (bt (bt (bt (bt dL.out bN.out) bH.out) bJ.out) cL.out) cF.out) hZ.out _ _)
     go_wp2
     clear nY nZ oA oB oC oD oE oF iO
     exact bodyPost_ret (results_cell1 rfl _ _ _ _ _ _ _ rfl oG.out Tryz.underlying27 rfl F_size) rfl (by rw [HE.out.1,HE.out.2.1,HE.out.2.2.1]; exact ⟨false,none,0,0,false,none,0,0,rfl,⟨PI.zero _,PI.zero _⟩,oH.out⟩)
    have iQ:∀ (s19:Bool) (A19:Option Addr) (n19:Nat) (c19:Nat) (s20:Bool) (A20:Option Addr) (n20:Nat) (c20:Nat) (aJ:Nat) (s22:Bool) (A22:Option Addr) (n22:Nat) (c22:Nat) (v:World),Hid (Below v13.heap.size v13 v)→Hid (PI v s19 A19 n19 c19 (q / gv))→Hid (PI v s20 A20 n20 c20 (s / gu))→Hid (BX 25 v aJ #[.bool s20,.slice A20 n20 c20])→Hid (v13.heap.size≤aJ)→Hid (PI v s22 A22 n22 c22 (outV (q / gv*(s / gu))))→F 3 (Array.setIfInBounds (Array.setIfInBounds (Array.setIfInBounds (Array.setIfInBounds (Array.setIfInBounds (Array.setIfInBounds (Array.setIfInBounds L0 2 true) 5 true) 6 true) 7 true) 8 true) 9 true) 10 true) (Act.put (Act.put (Act.put (Act.put (Act.put (Act.put (Act.put a0 (some 43) (.agg #[.bool s19,.slice A19 n19 c19])) (some 46) (.agg #[.bool s20,.slice A20 n20 c20])) (some 47) (.slice (some ⟨aJ,0,none⟩) 1 1)) (some 48) (.tuple #[.agg #[.bool s22,.slice A22 n22 c22],.int .i64 (outC (q / gv*(s / gu)))])) (some 40) (.tuple #[.agg #[.bool s22,.slice A22 n22 c22],.int .i64 (outC (q / gv*(s / gu)))])) (some 49) (.agg #[.bool s22,.slice A22 n22 c22])) (some 50) (.int .i64 (outC (q / gv*(s / gu))))) v:=by
     intro s19 A19 n19 c19 s20 A20 n20 c20 aJ s22 A22 n22 c22 v aA aU bA bG cE fK
     subst hF ha0 hL0
     simp only [PT] at dU ⊢
     have hHeld:=aO.out _ aA.out
     refine ryy [11] ?_
     refine .cons rfl (fun K hK=>?_) .nil
     go_simp
     have cM:=hJ ((Below.refl v.heap.size v).alloc (Nat.le_refl _) (.cells #[.bool false,.slice none 0 0] 25))
     have fP:=hJ (BX.lit v 25 #[.bool false,.slice none 0 0])
     obtain ⟨v29,hV⟩:=nmz (World.alloc v (.cells #[.bool false,.slice none 0 0] 25))
     obtain ⟨aG,hg⟩:=nmz (v.heap.size)
     rw [hV] at cM fP ⊢
     rw [hg] at fP ⊢
     have oI:=hJ (show v13.heap.size≤aG by rw [←hg]; exact aA.out.size)
     have oJ:=hJ (show aJ≠aG by have:=bG.out.lt; rw [hg] at this; omega)
     clear hV hg
     have iR:=hJ (bt aA.out cM.out)
     have oK:=hJ (PIo.new aU.out cM.out)
     have oL:=hJ (PIo.new bA.out cM.out)
     have oM:=hJ (PIo.new fK.out cM.out)
     have oN:=hJ (BX.new bG.out cM.out)
     clear hHeld
     refine hK.out _ _ (aO.out _ iR.out) (fun hHeld=>?_)
     clear hK K
     try simp only [PT]
     exact wpAnyH_cast (by kernel_rfl) (dU s19 A19 n19 c19 s20 A20 n20 c20 aJ s22 A22 n22 c22 aG v29 iR oK oL oN cE oM fP oI (hJ oJ.out))
    have dW:∀ (s19:Bool) (A19:Option Addr) (n19:Nat) (c19:Nat) (s20:Bool) (A20:Option Addr) (n20:Nat) (c20:Nat) (aJ:Nat) (aG:Nat) (v:World),Hid (Below v13.heap.size v13 v)→Hid (PI v s19 A19 n19 c19 (q / gv))→Hid (PI v s20 A20 n20 c20 (s / gu))→Hid (BX 25 v aJ #[.bool s20,.slice A20 n20 c20])→Hid (v13.heap.size≤aJ)→Hid (BX 25 v aG #[.bool false,.slice none 0 0])→Hid (v13.heap.size≤aG)→Hid (aJ≠aG)→F 6 (Array.setIfInBounds (Array.setIfInBounds (Array.setIfInBounds (Array.setIfInBounds L0 2 true) 5 true) 6 true) 11 true) (Act.put (Act.put (Act.put (Act.put a0 (some 43) (.agg #[.bool s19,.slice A19 n19 c19])) (some 46) (.agg #[.bool s20,.slice A20 n20 c20])) (some 47) (.slice (some ⟨aJ,0,none⟩) 1 1)) (some 12) (.pointer (some ⟨aG,0,none⟩))) v:=by
     intro s19 A19 n19 c19 s20 A20 n20 c20 aJ aG v aA aU bA bG cE aY bU iJ
     subst hF ha0 hL0
     simp only [PT] at dU ⊢
     have hHeld:=aO.out _ aA.out
     refine ryy [7] ?_
     refine .cons rfl (fun K hK=>?_) .nil
     go_simp
     go_at_call 105
     refine (fproduct_any [s / gu] (q / gv) s19 A19 n19 c19 aJ 1 v aU.out aM.out.2.2.2.2.1 (pel_bx bG.out bA.out aM.out.2.2.2.2.2) bG.out.lt rfl (by decide)).mono ?_
     rw [show pvV (q / gv) [s / gu]=outV (q / gv*(s / gu)) from pv_b1 _ _,show pvC (q / gv) [s / gu]=outC (q / gv*(s / gu)) from pc_b1 _ _]
     rintro e v30 ⟨s22,A22,n22,c22,rfl,hr22,hb⟩
     have dA:=hJ hb
     have oO:=hJ hr22
     clear hb hr22
     go_wp2_with fail
     have iS:=hJ (bt aA.out dA.out)
     have oP:=hJ (PIo.new aU.out dA.out)
     have oQ:=hJ (PIo.new bA.out dA.out)
     have oR:=hJ (BX.new bG.out dA.out)
     have oS:=hJ (BX.new aY.out dA.out)
     clear hHeld
     refine hK.out _ _ (aO.out _ iS.out) (fun hHeld=>?_)
     clear hK K
     refine tq 8 ?_
     refine tq 9 ?_
     refine tq 10 ?_
     try simp only [PT]
     exact wpAnyH_cast (by kernel_rfl) (dU s19 A19 n19 c19 s20 A20 n20 c20 aJ s22 A22 n22 c22 aG v30 iS oP oQ oR cE oO oS bU (hJ iJ.out))
    have iT:∀ (s19:Bool) (A19:Option Addr) (n19:Nat) (c19:Nat) (s20:Bool) (A20:Option Addr) (n20:Nat) (c20:Nat) (aJ:Nat) (v:World),Hid (Below v13.heap.size v13 v)→Hid (PI v s19 A19 n19 c19 (q / gv))→Hid (PI v s20 A20 n20 c20 (s / gu))→Hid (BX 25 v aJ #[.bool s20,.slice A20 n20 c20])→Hid (v13.heap.size≤aJ)→F 7 (Array.setIfInBounds (Array.setIfInBounds (Array.setIfInBounds L0 2 true) 5 true) 6 true) (Act.put (Act.put (Act.put a0 (some 43) (.agg #[.bool s19,.slice A19 n19 c19])) (some 46) (.agg #[.bool s20,.slice A20 n20 c20])) (some 47) (.slice (some ⟨aJ,0,none⟩) 1 1)) v:=by
     intro s19 A19 n19 c19 s20 A20 n20 c20 aJ v aA aU bA bG cE
     subst hF ha0 hL0
     simp only [PT] at iQ dW ⊢
     have hHeld:=aO.out _ aA.out
     refine ryy [7,11] ?_
     refine .cons rfl (fun K hK=>?_) ?_
     go_simp
     go_at_call 105
     refine (fproduct_any [s / gu] (q / gv) s19 A19 n19 c19 aJ 1 v aU.out aM.out.2.2.2.2.1 (pel_bx bG.out bA.out aM.out.2.2.2.2.2) bG.out.lt rfl (by decide)).mono ?_
     rw [show pvV (q / gv) [s / gu]=outV (q / gv*(s / gu)) from pv_b1 _ _,show pvC (q / gv) [s / gu]=outC (q / gv*(s / gu)) from pc_b1 _ _]
     rintro e v31 ⟨s22,A22,n22,c22,rfl,hr22,hb⟩
     have dX:=hJ hb
     have oT:=hJ hr22
     clear hb hr22
     go_wp2_with fail
     have iU:=hJ (bt aA.out dX.out)
     have oU:=hJ (PIo.new aU.out dX.out)
     have oV:=hJ (PIo.new bA.out dX.out)
     have oW:=hJ (BX.new bG.out dX.out)
     clear hHeld
     refine hK.out _ _ (aO.out _ iU.out) (fun hHeld=>?_)
     clear hK K
     refine tq 8 ?_
     refine tq 9 ?_
     refine tq 10 ?_
     try simp only [PT]
     exact wpAnyH_cast (by kernel_rfl) (iQ s19 A19 n19 c19 s20 A20 n20 c20 aJ s22 A22 n22 c22 v31 iU oU oV oW cE oT)
     refine .cons rfl (fun K hK=>?_) .nil
     go_simp
     have dB:=hJ ((Below.refl v.heap.size v).alloc (Nat.le_refl _) (.cells #[.bool false,.slice none 0 0] 25))
     have fQ:=hJ (BX.lit v 25 #[.bool false,.slice none 0 0])
     obtain ⟨v32,hV⟩:=nmz (World.alloc v (.cells #[.bool false,.slice none 0 0] 25))
     obtain ⟨aG,hg⟩:=nmz (v.heap.size)
     rw [hV] at dB fQ ⊢
     rw [hg] at fQ ⊢
     have oX:=hJ (show v13.heap.size≤aG by rw [←hg]; exact aA.out.size)
     have oY:=hJ (show aJ≠aG by have:=bG.out.lt; rw [hg] at this; omega)
     clear hV hg
     have iV:=hJ (bt aA.out dB.out)
     have oZ:=hJ (PIo.new aU.out dB.out)
     have pA:=hJ (PIo.new bA.out dB.out)
     have pB:=hJ (BX.new bG.out dB.out)
     clear hHeld
     refine hK.out _ _ (aO.out _ iV.out) (fun hHeld=>?_)
     clear hK K
     try simp only [PT]
     exact wpAnyH_cast (by kernel_rfl) (dW s19 A19 n19 c19 s20 A20 n20 c20 aJ aG v32 iV oZ pA pB cE fQ oX (hJ oY.out))
    have dY:∀ (s19:Bool) (A19:Option Addr) (n19:Nat) (c19:Nat) (s20:Bool) (A20:Option Addr) (n20:Nat) (c20:Nat) (aG:Nat) (v:World),Hid (Below v13.heap.size v13 v)→Hid (PI v s19 A19 n19 c19 (q / gv))→Hid (PI v s20 A20 n20 c20 (s / gu))→Hid (BX 25 v aG #[.bool false,.slice none 0 0])→Hid (v13.heap.size≤aG)→F 7 (Array.setIfInBounds (Array.setIfInBounds (Array.setIfInBounds L0 2 true) 5 true) 11 true) (Act.put (Act.put (Act.put a0 (some 43) (.agg #[.bool s19,.slice A19 n19 c19])) (some 46) (.agg #[.bool s20,.slice A20 n20 c20])) (some 12) (.pointer (some ⟨aG,0,none⟩))) v:=by
     intro s19 A19 n19 c19 s20 A20 n20 c20 aG v aA aU bA aY bU
     subst hF ha0 hL0
     simp only [PT] at dW ⊢
     have hHeld:=aO.out _ aA.out
     refine ryy [6] ?_
     refine .cons rfl (fun K hK=>?_) .nil
     go_simp
     have dD:=hJ ((Below.refl v.heap.size v).alloc (Nat.le_refl _) (.cells #[.bool s20,.slice A20 n20 c20] 25))
     have fR:=hJ (BX.lit v 25 #[.bool s20,.slice A20 n20 c20])
     obtain ⟨v33,hV⟩:=nmz (World.alloc v (.cells #[.bool s20,.slice A20 n20 c20] 25))
     obtain ⟨aJ,hg⟩:=nmz (v.heap.size)
     rw [hV] at dD fR ⊢
     rw [hg] at fR ⊢
     have pC:=hJ (show v13.heap.size≤aJ by rw [←hg]; exact aA.out.size)
     have pD:=hJ (show aG≠aJ by have:=aY.out.lt; rw [hg] at this; omega)
     clear hV hg
     have iW:=hJ (bt aA.out dD.out)
     have pE:=hJ (PIo.new aU.out dD.out)
     have pF:=hJ (PIo.new bA.out dD.out)
     have pG:=hJ (BX.new aY.out dD.out)
     clear hHeld
     refine hK.out _ _ (aO.out _ iW.out) (fun hHeld=>?_)
     clear hK K
     try simp only [PT]
     exact wpAnyH_cast (by kernel_rfl) (dW s19 A19 n19 c19 s20 A20 n20 c20 aJ aG v33 iW pE pF fR pC pG bU (hJ pD.out.symm))
    have iX:∀ (s19:Bool) (A19:Option Addr) (n19:Nat) (c19:Nat) (s20:Bool) (A20:Option Addr) (n20:Nat) (c20:Nat) (v:World),Hid (Below v13.heap.size v13 v)→Hid (PI v s19 A19 n19 c19 (q / gv))→Hid (PI v s20 A20 n20 c20 (s / gu))→F 8 (Array.setIfInBounds (Array.setIfInBounds L0 2 true) 5 true) (Act.put (Act.put a0 (some 43) (.agg #[.bool s19,.slice A19 n19 c19])) (some 46) (.agg #[.bool s20,.slice A20 n20 c20])) v:=by
     intro s19 A19 n19 c19 s20 A20 n20 c20 v aA aU bA
     subst hF ha0 hL0
     simp only [PT] at iT dY ⊢
     have hHeld:=aO.out _ aA.out
     refine ryy [6,11] ?_
     refine .cons rfl (fun K hK=>?_) ?_
     go_simp
     have dZ:=hJ ((Below.refl v.heap.size v).alloc (Nat.le_refl _) (.cells #[.bool s20,.slice A20 n20 c20] 25))
     have fS:=hJ (BX.lit v 25 #[.bool s20,.slice A20 n20 c20])
     obtain ⟨v34,hV⟩:=nmz (World.alloc v (.cells #[.bool s20,.slice A20 n20 c20] 25))
     obtain ⟨aJ,hg⟩:=nmz (v.heap.size)
     rw [hV] at dZ fS ⊢
     rw [hg] at fS ⊢
     have pH:=hJ (show v13.heap.size≤aJ by rw [←hg]; exact aA.out.size)
     clear hV hg
     have iY:=hJ (bt aA.out dZ.out)
     have pI:=hJ (PIo.new aU.out dZ.out)
     have pJ:=hJ (PIo.new bA.out dZ.out)
     clear hHeld
     refine hK.out _ _ (aO.out _ iY.out) (fun hHeld=>?_)
     clear hK K
     try simp only [PT]
     exact wpAnyH_cast (by kernel_rfl) (iT s19 A19 n19 c19 s20 A20 n20 c20 aJ v34 iY pI pJ fS pH)
     refine .cons rfl (fun K hK=>?_) .nil
     go_simp
     have eA:=hJ ((Below.refl v.heap.size v).alloc (Nat.le_refl _) (.cells #[.bool false,.slice none 0 0] 25))
     have fT:=hJ (BX.lit v 25 #[.bool false,.slice none 0 0])
     obtain ⟨v35,hV⟩:=nmz (World.alloc v (.cells #[.bool false,.slice none 0 0] 25))
     obtain ⟨aG,hg⟩:=nmz (v.heap.size)
     rw [hV] at eA fT ⊢
     rw [hg] at fT ⊢
     have pK:=hJ (show v13.heap.size≤aG by rw [←hg]; exact aA.out.size)
     clear hV hg
     have iZ:=hJ (bt aA.out eA.out)
     have pL:=hJ (PIo.new aU.out eA.out)
     have pM:=hJ (PIo.new bA.out eA.out)
     clear hHeld
     refine hK.out _ _ (aO.out _ iZ.out) (fun hHeld=>?_)
     clear hK K
     try simp only [PT]
     exact wpAnyH_cast (by kernel_rfl) (dY s19 A19 n19 c19 s20 A20 n20 c20 aG v35 iZ pL pM fT pK)
    have eB:∀ (s19:Bool) (A19:Option Addr) (n19:Nat) (c19:Nat) (aG:Nat) (v:World),Hid (Below v13.heap.size v13 v)→Hid (PI v s19 A19 n19 c19 (q / gv))→Hid (BX 25 v aG #[.bool false,.slice none 0 0])→Hid (v13.heap.size≤aG)→F 8 (Array.setIfInBounds (Array.setIfInBounds L0 2 true) 11 true) (Act.put (Act.put a0 (some 43) (.agg #[.bool s19,.slice A19 n19 c19])) (some 12) (.pointer (some ⟨aG,0,none⟩))) v:=by
     intro s19 A19 n19 c19 aG v aA aU aY bU
     subst hF ha0 hL0
     simp only [PT] at dY ⊢
     have hHeld:=aO.out _ aA.out
     refine ryy [5] ?_
     refine .cons rfl (fun K hK=>?_) .nil
     go_simp
     go_at_call 117
     refine (fdivided_any s gu s12 s13 A12 A13 n12 c12 n13 c13 v (PIo.new dS.out aA.out) (PIo.new dT.out aA.out) (Nat.le_trans (plim (PIo.new dS.out aA.out) aH.out.2.2.2.2.2) (by decide)) (Nat.le_trans (plim (PIo.new dT.out aA.out) aM.out.1.2) (by decide)) aM.out.1.1).mono ?_
     rintro e v36 ⟨s20,A20,n20,c20,rfl,hr20,hb⟩
     have fU:=hJ hb
     have pN:=hJ hr20
     clear hb hr20
     go_wp2_with fail
     have jA:=hJ (bt aA.out fU.out)
     have pO:=hJ (PIo.new aU.out fU.out)
     have pP:=hJ (BX.new aY.out fU.out)
     clear hHeld
     refine hK.out _ _ (aO.out _ jA.out) (fun hHeld=>?_)
     clear hK K
     try simp only [PT]
     exact wpAnyH_cast (by kernel_rfl) (dY s19 A19 n19 c19 s20 A20 n20 c20 aG v36 jA pO pN pP bU)
    have jB:∀ (s19:Bool) (A19:Option Addr) (n19:Nat) (c19:Nat) (v:World),Hid (Below v13.heap.size v13 v)→Hid (PI v s19 A19 n19 c19 (q / gv))→F 9 (Array.setIfInBounds L0 2 true) (Act.put a0 (some 43) (.agg #[.bool s19,.slice A19 n19 c19])) v:=by
     intro s19 A19 n19 c19 v aA aU
     subst hF ha0 hL0
     simp only [PT] at iX eB ⊢
     have hHeld:=aO.out _ aA.out
     refine ryy [5,11] ?_
     refine .cons rfl (fun K hK=>?_) ?_
     go_simp
     go_at_call 117
     refine (fdivided_any s gu s12 s13 A12 A13 n12 c12 n13 c13 v (PIo.new dS.out aA.out) (PIo.new dT.out aA.out) (Nat.le_trans (plim (PIo.new dS.out aA.out) aH.out.2.2.2.2.2) (by decide)) (Nat.le_trans (plim (PIo.new dT.out aA.out) aM.out.1.2) (by decide)) aM.out.1.1).mono ?_
     rintro e v37 ⟨s20,A20,n20,c20,rfl,hr20,hb⟩
     have jC:=hJ hb
     have pQ:=hJ hr20
     clear hb hr20
     go_wp2_with fail
     have jD:=hJ (bt aA.out jC.out)
     have pR:=hJ (PIo.new aU.out jC.out)
     clear hHeld
     refine hK.out _ _ (aO.out _ jD.out) (fun hHeld=>?_)
     clear hK K
     try simp only [PT]
     exact wpAnyH_cast (by kernel_rfl) (iX s19 A19 n19 c19 s20 A20 n20 c20 v37 jD pR pQ)
     refine .cons rfl (fun K hK=>?_) .nil
     go_simp
     have fV:=hJ ((Below.refl v.heap.size v).alloc (Nat.le_refl _) (.cells #[.bool false,.slice none 0 0] 25))
     have fW:=hJ (BX.lit v 25 #[.bool false,.slice none 0 0])
     obtain ⟨v38,hV⟩:=nmz (World.alloc v (.cells #[.bool false,.slice none 0 0] 25))
     obtain ⟨aG,hg⟩:=nmz (v.heap.size)
     rw [hV] at fV fW ⊢
     rw [hg] at fW ⊢
     have pS:=hJ (show v13.heap.size≤aG by rw [←hg]; exact aA.out.size)
     clear hV hg
     have jE:=hJ (bt aA.out fV.out)
     have pT:=hJ (PIo.new aU.out fV.out)
     clear hHeld
     refine hK.out _ _ (aO.out _ jE.out) (fun hHeld=>?_)
     clear hK K
     try simp only [PT]
     exact wpAnyH_cast (by kernel_rfl) (eB s19 A19 n19 c19 aG v38 jE pT fW pS)
    have jF:∀ (aG:Nat) (v:World),Hid (Below v13.heap.size v13 v)→Hid (BX 25 v aG #[.bool false,.slice none 0 0])→Hid (v13.heap.size≤aG)→F 9 (Array.setIfInBounds L0 11 true) (Act.put a0 (some 12) (.pointer (some ⟨aG,0,none⟩))) v:=by
     intro aG v aA aY bU
     subst hF ha0 hL0
     simp only [PT] at eB ⊢
     have hHeld:=aO.out _ aA.out
     refine ryy [2] ?_
     refine .cons rfl (fun K hK=>?_) .nil
     go_simp
     go_at_call 117
     refine (fdivided_any q gv s11 s14 A11 A14 n11 c11 n14 c14 v (PIo.new dQ.out aA.out) (PIo.new dR.out aA.out) (Nat.le_trans (plim (PIo.new dQ.out aA.out) aH.out.2.2.2.1) (by decide)) (Nat.le_trans (plim (PIo.new dR.out aA.out) aM.out.2.1.2) (by decide)) aM.out.2.1.1).mono ?_
     rintro e v39 ⟨s19,A19,n19,c19,rfl,hr19,hb⟩
     have jG:=hJ hb
     have pU:=hJ hr19
     clear hb hr19
     go_wp2_with fail
     have jH:=hJ (bt aA.out jG.out)
     have pV:=hJ (BX.new aY.out jG.out)
     clear hHeld
     refine hK.out _ _ (aO.out _ jH.out) (fun hHeld=>?_)
     clear hK K
     try simp only [PT]
     exact wpAnyH_cast (by kernel_rfl) (eB s19 A19 n19 c19 aG v39 jH pU pV bU)
    subst hF ha0 hL0
    simp only [PT] at jB jF
    refine ryy [2,11] ?_
    refine .cons rfl (fun K hK=>?_) ?_
    go_simp
    go_at_call 117
    refine (fdivided_any q gv s11 s14 A11 A14 n11 c11 n14 c14 v16 (PIo.new dQ.out cD.out) (PIo.new dR.out cD.out) (Nat.le_trans (plim (PIo.new dQ.out cD.out) aH.out.2.2.2.1) (by decide)) (Nat.le_trans (plim (PIo.new dR.out cD.out) aM.out.2.1.2) (by decide)) aM.out.2.1.1).mono ?_
    rintro e v40 ⟨s19,A19,n19,c19,rfl,hr19,hb⟩
    have pW:=hJ hb
    have pX:=hJ hr19
    clear hb hr19
    go_wp2_with fail
    have jI:=hJ (bt cD.out pW.out)
    clear hHeld
    refine hK.out _ _ (aO.out _ jI.out) (fun hHeld=>?_)
    clear hK K
    try simp only [PT]
    exact wpAnyH_cast (by kernel_rfl) (jB s19 A19 n19 c19 v40 jI pX)
    refine .cons rfl (fun K hK=>?_) .nil
    go_simp
    have jJ:=hJ ((Below.refl v16.heap.size v16).alloc (Nat.le_refl _) (.cells #[.bool false,.slice none 0 0] 25))
    have fX:=hJ (BX.lit v16 25 #[.bool false,.slice none 0 0])
    obtain ⟨v41,hV⟩:=nmz (World.alloc v16 (.cells #[.bool false,.slice none 0 0] 25))
    obtain ⟨aG,hg⟩:=nmz (v16.heap.size)
    rw [hV] at jJ fX ⊢
    rw [hg] at fX ⊢
    have pY:=hJ (show v13.heap.size≤aG by rw [←hg]; exact cD.out.size)
    clear hV hg
    have jK:=hJ (bt cD.out jJ.out)
    clear hHeld
    refine hK.out _ _ (aO.out _ jK.out) (fun hHeld=>?_)
    clear hK K
    try simp only [PT]
    exact wpAnyH_cast (by kernel_rfl) (jF aG v41 jK fX pY)
   have jL:∀ (s15:Bool) (A15:Option Addr) (n15:Nat) (c15:Nat) (s16:Bool) (A16:Option Addr) (n16:Nat) (c16:Nat) (aI:Nat) (s18:Bool) (A18:Option Addr) (n18:Nat) (c18:Nat) (v:World),Hid (Below v9.heap.size v9 v)→Hid (PI v s15 A15 n15 c15 (p / gu))→Hid (PI v s16 A16 n16 c16 (r / gv))→Hid (BX 25 v aI #[.bool s16,.slice A16 n16 c16])→Hid (v9.heap.size≤aI)→Hid (PI v s18 A18 n18 c18 (outV (p / gu*(r / gv))))→F 3 (Array.setIfInBounds (Array.setIfInBounds (Array.setIfInBounds (Array.setIfInBounds (Array.setIfInBounds (Array.setIfInBounds (Array.setIfInBounds L0 3 true) 7 true) 8 true) 9 true) 10 true) 11 true) 12 true) (Act.put (Act.put (Act.put (Act.put (Act.put (Act.put (Act.put a0 (some 31) (.agg #[.bool s15,.slice A15 n15 c15])) (some 35) (.agg #[.bool s16,.slice A16 n16 c16])) (some 36) (.slice (some ⟨aI,0,none⟩) 1 1)) (some 37) (.tuple #[.agg #[.bool s18,.slice A18 n18 c18],.int .i64 (outC (p / gu*(r / gv)))])) (some 27) (.tuple #[.agg #[.bool s18,.slice A18 n18 c18],.int .i64 (outC (p / gu*(r / gv)))])) (some 38) (.agg #[.bool s18,.slice A18 n18 c18])) (some 39) (.int .i64 (outC (p / gu*(r / gv))))) v:=by
    intro s15 A15 n15 c15 s16 A16 n16 c16 aI s18 A18 n18 c18 v aA aT aZ bF cC fI
    subst hF ha0 hL0
    simp only [PT] at dO ⊢
    have hHeld:=aN.out _ aA.out
    refine ryy [13] ?_
    refine .cons rfl (fun K hK=>?_) .nil
    go_simp
    have cN:=hJ ((Below.refl v.heap.size v).alloc (Nat.le_refl _) (.cells #[.bool false,.slice none 0 0] 25))
    have fY:=hJ (BX.lit v 25 #[.bool false,.slice none 0 0])
    obtain ⟨v42,hV⟩:=nmz (World.alloc v (.cells #[.bool false,.slice none 0 0] 25))
    obtain ⟨aF,hg⟩:=nmz (v.heap.size)
    rw [hV] at cN fY ⊢
    rw [hg] at fY ⊢
    have pZ:=hJ (show v9.heap.size≤aF by rw [←hg]; exact aA.out.size)
    have qA:=hJ (show aI≠aF by have:=bF.out.lt; rw [hg] at this; omega)
    clear hV hg
    have jM:=hJ (bt aA.out cN.out)
    have qB:=hJ (PIo.new aT.out cN.out)
    have qC:=hJ (PIo.new aZ.out cN.out)
    have qD:=hJ (PIo.new fI.out cN.out)
    have qE:=hJ (BX.new bF.out cN.out)
    clear hHeld
    refine hK.out _ _ (aN.out _ jM.out) (fun hHeld=>?_)
    clear hK K
    try simp only [PT]
    exact wpAnyH_cast (by kernel_rfl) (dO s15 A15 n15 c15 s16 A16 n16 c16 aI s18 A18 n18 c18 aF v42 jM qB qC qE cC qD fY pZ (hJ qA.out))
   have eC:∀ (s15:Bool) (A15:Option Addr) (n15:Nat) (c15:Nat) (s16:Bool) (A16:Option Addr) (n16:Nat) (c16:Nat) (aI:Nat) (aF:Nat) (v:World),Hid (Below v9.heap.size v9 v)→Hid (PI v s15 A15 n15 c15 (p / gu))→Hid (PI v s16 A16 n16 c16 (r / gv))→Hid (BX 25 v aI #[.bool s16,.slice A16 n16 c16])→Hid (v9.heap.size≤aI)→Hid (BX 25 v aF #[.bool false,.slice none 0 0])→Hid (v9.heap.size≤aF)→Hid (aI≠aF)→F 6 (Array.setIfInBounds (Array.setIfInBounds (Array.setIfInBounds (Array.setIfInBounds L0 3 true) 7 true) 8 true) 13 true) (Act.put (Act.put (Act.put (Act.put a0 (some 31) (.agg #[.bool s15,.slice A15 n15 c15])) (some 35) (.agg #[.bool s16,.slice A16 n16 c16])) (some 36) (.slice (some ⟨aI,0,none⟩) 1 1)) (some 10) (.pointer (some ⟨aF,0,none⟩))) v:=by
    intro s15 A15 n15 c15 s16 A16 n16 c16 aI aF v aA aT aZ bF cC aX bT iE
    subst hF ha0 hL0
    simp only [PT] at dO ⊢
    have hHeld:=aN.out _ aA.out
    refine ryy [9] ?_
    refine .cons rfl (fun K hK=>?_) .nil
    go_simp
    go_at_call 105
    refine (fproduct_any [r / gv] (p / gu) s15 A15 n15 c15 aI 1 v aT.out aM.out.2.2.1 (pel_bx bF.out aZ.out aM.out.2.2.2.1) bF.out.lt rfl (by decide)).mono ?_
    rw [show pvV (p / gu) [r / gv]=outV (p / gu*(r / gv)) from pv_b1 _ _,show pvC (p / gu) [r / gv]=outC (p / gu*(r / gv)) from pc_b1 _ _]
    rintro e v43 ⟨s18,A18,n18,c18,rfl,hr18,hb⟩
    have dE:=hJ hb
    have qF:=hJ hr18
    clear hb hr18
    go_wp2_with fail
    have jN:=hJ (bt aA.out dE.out)
    have qG:=hJ (PIo.new aT.out dE.out)
    have qH:=hJ (PIo.new aZ.out dE.out)
    have qI:=hJ (BX.new bF.out dE.out)
    have qJ:=hJ (BX.new aX.out dE.out)
    clear hHeld
    refine hK.out _ _ (aN.out _ jN.out) (fun hHeld=>?_)
    clear hK K
    refine tq 10 ?_
    refine tq 11 ?_
    refine tq 12 ?_
    try simp only [PT]
    exact wpAnyH_cast (by kernel_rfl) (dO s15 A15 n15 c15 s16 A16 n16 c16 aI s18 A18 n18 c18 aF v43 jN qG qH qI cC qF qJ bT (hJ iE.out))
   have jO:∀ (s15:Bool) (A15:Option Addr) (n15:Nat) (c15:Nat) (s16:Bool) (A16:Option Addr) (n16:Nat) (c16:Nat) (aI:Nat) (v:World),Hid (Below v9.heap.size v9 v)→Hid (PI v s15 A15 n15 c15 (p / gu))→Hid (PI v s16 A16 n16 c16 (r / gv))→Hid (BX 25 v aI #[.bool s16,.slice A16 n16 c16])→Hid (v9.heap.size≤aI)→F 7 (Array.setIfInBounds (Array.setIfInBounds (Array.setIfInBounds L0 3 true) 7 true) 8 true) (Act.put (Act.put (Act.put a0 (some 31) (.agg #[.bool s15,.slice A15 n15 c15])) (some 35) (.agg #[.bool s16,.slice A16 n16 c16])) (some 36) (.slice (some ⟨aI,0,none⟩) 1 1)) v:=by
    intro s15 A15 n15 c15 s16 A16 n16 c16 aI v aA aT aZ bF cC
    subst hF ha0 hL0
    simp only [PT] at jL eC ⊢
    have hHeld:=aN.out _ aA.out
    refine ryy [9,13] ?_
    refine .cons rfl (fun K hK=>?_) ?_
    go_simp
    go_at_call 105
    refine (fproduct_any [r / gv] (p / gu) s15 A15 n15 c15 aI 1 v aT.out aM.out.2.2.1 (pel_bx bF.out aZ.out aM.out.2.2.2.1) bF.out.lt rfl (by decide)).mono ?_
    rw [show pvV (p / gu) [r / gv]=outV (p / gu*(r / gv)) from pv_b1 _ _,show pvC (p / gu) [r / gv]=outC (p / gu*(r / gv)) from pc_b1 _ _]
    rintro e v44 ⟨s18,A18,n18,c18,rfl,hr18,hb⟩
    have eD:=hJ hb
    have qK:=hJ hr18
    clear hb hr18
    go_wp2_with fail
    have jP:=hJ (bt aA.out eD.out)
    have qL:=hJ (PIo.new aT.out eD.out)
    have qM:=hJ (PIo.new aZ.out eD.out)
    have qN:=hJ (BX.new bF.out eD.out)
    clear hHeld
    refine hK.out _ _ (aN.out _ jP.out) (fun hHeld=>?_)
    clear hK K
    refine tq 10 ?_
    refine tq 11 ?_
    refine tq 12 ?_
    try simp only [PT]
    exact wpAnyH_cast (by kernel_rfl) (jL s15 A15 n15 c15 s16 A16 n16 c16 aI s18 A18 n18 c18 v44 jP qL qM qN cC qK)
    refine .cons rfl (fun K hK=>?_) .nil
    go_simp
    have dF:=hJ ((Below.refl v.heap.size v).alloc (Nat.le_refl _) (.cells #[.bool false,.slice none 0 0] 25))
    have fZ:=hJ (BX.lit v 25 #[.bool false,.slice none 0 0])
    obtain ⟨v45,hV⟩:=nmz (World.alloc v (.cells #[.bool false,.slice none 0 0] 25))
    obtain ⟨aF,hg⟩:=nmz (v.heap.size)
    rw [hV] at dF fZ ⊢
    rw [hg] at fZ ⊢
    have qO:=hJ (show v9.heap.size≤aF by rw [←hg]; exact aA.out.size)
    have qP:=hJ (show aI≠aF by have:=bF.out.lt; rw [hg] at this; omega)
    clear hV hg
    have jQ:=hJ (bt aA.out dF.out)
    have qQ:=hJ (PIo.new aT.out dF.out)
    have qR:=hJ (PIo.new aZ.out dF.out)
    have qS:=hJ (BX.new bF.out dF.out)
    clear hHeld
    refine hK.out _ _ (aN.out _ jQ.out) (fun hHeld=>?_)
    clear hK K
    try simp only [PT]
    exact wpAnyH_cast (by kernel_rfl) (eC s15 A15 n15 c15 s16 A16 n16 c16 aI aF v45 jQ qQ qR qS cC fZ qO (hJ qP.out))
   have eE:∀ (s15:Bool) (A15:Option Addr) (n15:Nat) (c15:Nat) (s16:Bool) (A16:Option Addr) (n16:Nat) (c16:Nat) (aF:Nat) (v:World),Hid (Below v9.heap.size v9 v)→Hid (PI v s15 A15 n15 c15 (p / gu))→Hid (PI v s16 A16 n16 c16 (r / gv))→Hid (BX 25 v aF #[.bool false,.slice none 0 0])→Hid (v9.heap.size≤aF)→F 7 (Array.setIfInBounds (Array.setIfInBounds (Array.setIfInBounds L0 3 true) 7 true) 13 true) (Act.put (Act.put (Act.put a0 (some 31) (.agg #[.bool s15,.slice A15 n15 c15])) (some 35) (.agg #[.bool s16,.slice A16 n16 c16])) (some 10) (.pointer (some ⟨aF,0,none⟩))) v:=by
    intro s15 A15 n15 c15 s16 A16 n16 c16 aF v aA aT aZ aX bT
    subst hF ha0 hL0
    simp only [PT] at eC ⊢
    have hHeld:=aN.out _ aA.out
    refine ryy [8] ?_
    refine .cons rfl (fun K hK=>?_) .nil
    go_simp
    have dG:=hJ ((Below.refl v.heap.size v).alloc (Nat.le_refl _) (.cells #[.bool s16,.slice A16 n16 c16] 25))
    have gA:=hJ (BX.lit v 25 #[.bool s16,.slice A16 n16 c16])
    obtain ⟨v46,hV⟩:=nmz (World.alloc v (.cells #[.bool s16,.slice A16 n16 c16] 25))
    obtain ⟨aI,hg⟩:=nmz (v.heap.size)
    rw [hV] at dG gA ⊢
    rw [hg] at gA ⊢
    have qT:=hJ (show v9.heap.size≤aI by rw [←hg]; exact aA.out.size)
    have qU:=hJ (show aF≠aI by have:=aX.out.lt; rw [hg] at this; omega)
    clear hV hg
    have jR:=hJ (bt aA.out dG.out)
    have qV:=hJ (PIo.new aT.out dG.out)
    have qW:=hJ (PIo.new aZ.out dG.out)
    have qX:=hJ (BX.new aX.out dG.out)
    clear hHeld
    refine hK.out _ _ (aN.out _ jR.out) (fun hHeld=>?_)
    clear hK K
    try simp only [PT]
    exact wpAnyH_cast (by kernel_rfl) (eC s15 A15 n15 c15 s16 A16 n16 c16 aI aF v46 jR qV qW gA qT qX bT (hJ qU.out.symm))
   have jS:∀ (s15:Bool) (A15:Option Addr) (n15:Nat) (c15:Nat) (s16:Bool) (A16:Option Addr) (n16:Nat) (c16:Nat) (v:World),Hid (Below v9.heap.size v9 v)→Hid (PI v s15 A15 n15 c15 (p / gu))→Hid (PI v s16 A16 n16 c16 (r / gv))→F 8 (Array.setIfInBounds (Array.setIfInBounds L0 3 true) 7 true) (Act.put (Act.put a0 (some 31) (.agg #[.bool s15,.slice A15 n15 c15])) (some 35) (.agg #[.bool s16,.slice A16 n16 c16])) v:=by
    intro s15 A15 n15 c15 s16 A16 n16 c16 v aA aT aZ
    subst hF ha0 hL0
    simp only [PT] at jO eE ⊢
    have hHeld:=aN.out _ aA.out
    refine ryy [8,13] ?_
    refine .cons rfl (fun K hK=>?_) ?_
    go_simp
    have eF:=hJ ((Below.refl v.heap.size v).alloc (Nat.le_refl _) (.cells #[.bool s16,.slice A16 n16 c16] 25))
    have gB:=hJ (BX.lit v 25 #[.bool s16,.slice A16 n16 c16])
    obtain ⟨v47,hV⟩:=nmz (World.alloc v (.cells #[.bool s16,.slice A16 n16 c16] 25))
    obtain ⟨aI,hg⟩:=nmz (v.heap.size)
    rw [hV] at eF gB ⊢
    rw [hg] at gB ⊢
    have qY:=hJ (show v9.heap.size≤aI by rw [←hg]; exact aA.out.size)
    clear hV hg
    have jT:=hJ (bt aA.out eF.out)
    have qZ:=hJ (PIo.new aT.out eF.out)
    have rA:=hJ (PIo.new aZ.out eF.out)
    clear hHeld
    refine hK.out _ _ (aN.out _ jT.out) (fun hHeld=>?_)
    clear hK K
    try simp only [PT]
    exact wpAnyH_cast (by kernel_rfl) (jO s15 A15 n15 c15 s16 A16 n16 c16 aI v47 jT qZ rA gB qY)
    refine .cons rfl (fun K hK=>?_) .nil
    go_simp
    have eG:=hJ ((Below.refl v.heap.size v).alloc (Nat.le_refl _) (.cells #[.bool false,.slice none 0 0] 25))
    have gC:=hJ (BX.lit v 25 #[.bool false,.slice none 0 0])
    obtain ⟨v48,hV⟩:=nmz (World.alloc v (.cells #[.bool false,.slice none 0 0] 25))
    obtain ⟨aF,hg⟩:=nmz (v.heap.size)
    rw [hV] at eG gC ⊢
    rw [hg] at gC ⊢
    have rB:=hJ (show v9.heap.size≤aF by rw [←hg]; exact aA.out.size)
    clear hV hg
    have jU:=hJ (bt aA.out eG.out)
    have rC:=hJ (PIo.new aT.out eG.out)
    have rD:=hJ (PIo.new aZ.out eG.out)
    clear hHeld
    refine hK.out _ _ (aN.out _ jU.out) (fun hHeld=>?_)
    clear hK K
    try simp only [PT]
    exact wpAnyH_cast (by kernel_rfl) (eE s15 A15 n15 c15 s16 A16 n16 c16 aF v48 jU rC rD gC rB)
   have eH:∀ (s15:Bool) (A15:Option Addr) (n15:Nat) (c15:Nat) (aF:Nat) (v:World),Hid (Below v9.heap.size v9 v)→Hid (PI v s15 A15 n15 c15 (p / gu))→Hid (BX 25 v aF #[.bool false,.slice none 0 0])→Hid (v9.heap.size≤aF)→F 8 (Array.setIfInBounds (Array.setIfInBounds L0 3 true) 13 true) (Act.put (Act.put a0 (some 31) (.agg #[.bool s15,.slice A15 n15 c15])) (some 10) (.pointer (some ⟨aF,0,none⟩))) v:=by
    intro s15 A15 n15 c15 aF v aA aT aX bT
    subst hF ha0 hL0
    simp only [PT] at eE ⊢
    have hHeld:=aN.out _ aA.out
    refine ryy [7] ?_
    refine .cons rfl (fun K hK=>?_) .nil
    go_simp
    go_at_call 117
    refine (fdivided_any r gv sd s14 Ad A14 nd cd n14 c14 v (PF.new dN.out aA.out).1 (PIo.new cZ.out aA.out) (Nat.le_trans (plim (PF.new dN.out aA.out).1 aH.out.2.2.2.2.1) (by decide)) (Nat.le_trans (plim (PIo.new cZ.out aA.out) aM.out.2.1.2) (by decide)) aM.out.2.1.1).mono ?_
    rintro e v49 ⟨s16,A16,n16,c16,rfl,hr16,hb⟩
    have gD:=hJ hb
    have rE:=hJ hr16
    clear hb hr16
    go_wp2_with fail
    have jV:=hJ (bt aA.out gD.out)
    have rF:=hJ (PIo.new aT.out gD.out)
    have rG:=hJ (BX.new aX.out gD.out)
    clear hHeld
    refine hK.out _ _ (aN.out _ jV.out) (fun hHeld=>?_)
    clear hK K
    try simp only [PT]
    exact wpAnyH_cast (by kernel_rfl) (eE s15 A15 n15 c15 s16 A16 n16 c16 aF v49 jV rF rE rG bT)
   have jW:∀ (s15:Bool) (A15:Option Addr) (n15:Nat) (c15:Nat) (v:World),Hid (Below v9.heap.size v9 v)→Hid (PI v s15 A15 n15 c15 (p / gu))→F 9 (Array.setIfInBounds L0 3 true) (Act.put a0 (some 31) (.agg #[.bool s15,.slice A15 n15 c15])) v:=by
    intro s15 A15 n15 c15 v aA aT
    subst hF ha0 hL0
    simp only [PT] at jS eH ⊢
    have hHeld:=aN.out _ aA.out
    refine ryy [7,13] ?_
    refine .cons rfl (fun K hK=>?_) ?_
    go_simp
    go_at_call 117
    refine (fdivided_any r gv sd s14 Ad A14 nd cd n14 c14 v (PF.new dN.out aA.out).1 (PIo.new cZ.out aA.out) (Nat.le_trans (plim (PF.new dN.out aA.out).1 aH.out.2.2.2.2.1) (by decide)) (Nat.le_trans (plim (PIo.new cZ.out aA.out) aM.out.2.1.2) (by decide)) aM.out.2.1.1).mono ?_
    rintro e v50 ⟨s16,A16,n16,c16,rfl,hr16,hb⟩
    have jX:=hJ hb
    have rH:=hJ hr16
    clear hb hr16
    go_wp2_with fail
    have jY:=hJ (bt aA.out jX.out)
    have rI:=hJ (PIo.new aT.out jX.out)
    clear hHeld
    refine hK.out _ _ (aN.out _ jY.out) (fun hHeld=>?_)
    clear hK K
    try simp only [PT]
    exact wpAnyH_cast (by kernel_rfl) (jS s15 A15 n15 c15 s16 A16 n16 c16 v50 jY rI rH)
    refine .cons rfl (fun K hK=>?_) .nil
    go_simp
    have gE:=hJ ((Below.refl v.heap.size v).alloc (Nat.le_refl _) (.cells #[.bool false,.slice none 0 0] 25))
    have gF:=hJ (BX.lit v 25 #[.bool false,.slice none 0 0])
    obtain ⟨v51,hV⟩:=nmz (World.alloc v (.cells #[.bool false,.slice none 0 0] 25))
    obtain ⟨aF,hg⟩:=nmz (v.heap.size)
    rw [hV] at gE gF ⊢
    rw [hg] at gF ⊢
    have rJ:=hJ (show v9.heap.size≤aF by rw [←hg]; exact aA.out.size)
    clear hV hg
    have jZ:=hJ (bt aA.out gE.out)
    have rK:=hJ (PIo.new aT.out gE.out)
    clear hHeld
    refine hK.out _ _ (aN.out _ jZ.out) (fun hHeld=>?_)
    clear hK K
    try simp only [PT]
    exact wpAnyH_cast (by kernel_rfl) (eH s15 A15 n15 c15 aF v51 jZ rK gF rJ)
   have kA:∀ (aF:Nat) (v:World),Hid (Below v9.heap.size v9 v)→Hid (BX 25 v aF #[.bool false,.slice none 0 0])→Hid (v9.heap.size≤aF)→F 9 (Array.setIfInBounds L0 13 true) (Act.put a0 (some 10) (.pointer (some ⟨aF,0,none⟩))) v:=by
    intro aF v aA aX bT
    subst hF ha0 hL0
    simp only [PT] at eH ⊢
    have hHeld:=aN.out _ aA.out
    refine ryy [3] ?_
    refine .cons rfl (fun K hK=>?_) .nil
    go_simp
    go_at_call 117
    refine (fdivided_any p gu sa s13 Aa A13 na ca n13 c13 v (PF.new dM.out aA.out).1 (PIo.new cY.out aA.out) (Nat.le_trans (plim (PF.new dM.out aA.out).1 aH.out.2.2.1) (by decide)) (Nat.le_trans (plim (PIo.new cY.out aA.out) aM.out.1.2) (by decide)) aM.out.1.1).mono ?_
    rintro e v52 ⟨s15,A15,n15,c15,rfl,hr15,hb⟩
    have kB:=hJ hb
    have rL:=hJ hr15
    clear hb hr15
    go_wp2_with fail
    have kC:=hJ (bt aA.out kB.out)
    have rM:=hJ (BX.new aX.out kB.out)
    clear hHeld
    refine hK.out _ _ (aN.out _ kC.out) (fun hHeld=>?_)
    clear hK K
    try simp only [PT]
    exact wpAnyH_cast (by kernel_rfl) (eH s15 A15 n15 c15 aF v52 kC rL rM bT)
   subst hF ha0 hL0
   simp only [PT] at jW kA
   refine ryy [3,13] ?_
   refine .cons rfl (fun K hK=>?_) ?_
   go_simp
   go_at_call 117
   refine (fdivided_any p gu sa s13 Aa A13 na ca n13 c13 v12 (PF.new dM.out cB.out).1 (PIo.new cY.out cB.out) (Nat.le_trans (plim (PF.new dM.out cB.out).1 aH.out.2.2.1) (by decide)) (Nat.le_trans (plim (PIo.new cY.out cB.out) aM.out.1.2) (by decide)) aM.out.1.1).mono ?_
   rintro e v53 ⟨s15,A15,n15,c15,rfl,hr15,hb⟩
   have rN:=hJ hb
   have rO:=hJ hr15
   clear hb hr15
   go_wp2_with fail
   have kD:=hJ (bt cB.out rN.out)
   clear hHeld
   refine hK.out _ _ (aN.out _ kD.out) (fun hHeld=>?_)
   clear hK K
   try simp only [PT]
   exact wpAnyH_cast (by kernel_rfl) (jW s15 A15 n15 c15 v53 kD rO)
   refine .cons rfl (fun K hK=>?_) .nil
   go_simp
   have kE:=hJ ((Below.refl v12.heap.size v12).alloc (Nat.le_refl _) (.cells #[.bool false,.slice none 0 0] 25))
   have gG:=hJ (BX.lit v12 25 #[.bool false,.slice none 0 0])
   obtain ⟨v54,hV⟩:=nmz (World.alloc v12 (.cells #[.bool false,.slice none 0 0] 25))
   obtain ⟨aF,hg⟩:=nmz (v12.heap.size)
   rw [hV] at kE gG ⊢
   rw [hg] at gG ⊢
   have rP:=hJ (show v9.heap.size≤aF by rw [←hg]; exact cB.out.size)
   clear hV hg
   have kF:=hJ (bt cB.out kE.out)
   clear hHeld
   refine hK.out _ _ (aN.out _ kF.out) (fun hHeld=>?_)
   clear hK K
   try simp only [PT]
   exact wpAnyH_cast (by kernel_rfl) (kA aF v54 kF gG rP)
  have eI:∀ (s13:Bool) (A13:Option Addr) (n13:Nat) (c13:Nat) (s14:Bool) (A14:Option Addr) (n14:Nat) (c14:Nat) (aD:Nat) (v:World),Hid (Below v4.heap.size v4 v)→Hid (PI v s13 A13 n13 c13 gu)→Hid (PI v s14 A14 n14 c14 gv)→Hid (BX 25 v aD #[.bool false,.slice none 0 0])→Hid (v4.heap.size≤aD)→F 3 (Array.setIfInBounds (Array.setIfInBounds (Array.setIfInBounds L0 3 true) 7 true) 8 true) (Act.put (Act.put (Act.put a0 (some 22) (.agg #[.bool s13,.slice A13 n13 c13])) (some 26) (.agg #[.bool s14,.slice A14 n14 c14])) (some 8) (.pointer (some ⟨aD,0,none⟩))) v:=by
   intro s13 A13 n13 c13 s14 A14 n14 c14 aD v aA aS bY aQ bD
   subst hF ha0 hL0
   simp only [PT] at cJ ⊢
   have hHeld:=aL.out _ aA.out
   refine ryy [9] ?_
   refine .cons rfl (fun K hK=>?_) .nil
   go_simp
   have dH:=hJ ((Below.refl v.heap.size v).alloc (Nat.le_refl _) (.cells #[.bool false,.slice none 0 0] 25))
   have gH:=hJ (BX.lit v 25 #[.bool false,.slice none 0 0])
   obtain ⟨v55,hV⟩:=nmz (World.alloc v (.cells #[.bool false,.slice none 0 0] 25))
   obtain ⟨aE,hg⟩:=nmz (v.heap.size)
   rw [hV] at dH gH ⊢
   rw [hg] at gH ⊢
   have rQ:=hJ (show v4.heap.size≤aE by rw [←hg]; exact aA.out.size)
   have rR:=hJ (show aD≠aE by have:=aQ.out.lt; rw [hg] at this; omega)
   clear hV hg
   have kG:=hJ (bt aA.out dH.out)
   have rS:=hJ (PIo.new aS.out dH.out)
   have rT:=hJ (PIo.new bY.out dH.out)
   have rU:=hJ (BX.new aQ.out dH.out)
   clear hHeld
   refine hK.out _ _ (aL.out _ kG.out) (fun hHeld=>?_)
   clear hK K
   try simp only [PT]
   exact wpAnyH_cast (by kernel_rfl) (cJ s13 A13 n13 c13 s14 A14 n14 c14 aD aE v55 kG rS rT rU bD gH rQ (hJ rR.out))
  have eJ:∀ (s13:Bool) (A13:Option Addr) (n13:Nat) (c13:Nat) (s14:Bool) (A14:Option Addr) (n14:Nat) (c14:Nat) (aE:Nat) (v:World),Hid (Below v4.heap.size v4 v)→Hid (PI v s13 A13 n13 c13 gu)→Hid (PI v s14 A14 n14 c14 gv)→Hid (BX 25 v aE #[.bool false,.slice none 0 0])→Hid (v4.heap.size≤aE)→F 3 (Array.setIfInBounds (Array.setIfInBounds (Array.setIfInBounds L0 3 true) 7 true) 9 true) (Act.put (Act.put (Act.put a0 (some 22) (.agg #[.bool s13,.slice A13 n13 c13])) (some 26) (.agg #[.bool s14,.slice A14 n14 c14])) (some 9) (.pointer (some ⟨aE,0,none⟩))) v:=by
   intro s13 A13 n13 c13 s14 A14 n14 c14 aE v aA aS bY aW bE
   subst hF ha0 hL0
   simp only [PT] at cJ ⊢
   have hHeld:=aL.out _ aA.out
   refine ryy [8] ?_
   refine .cons rfl (fun K hK=>?_) .nil
   go_simp
   have dI:=hJ ((Below.refl v.heap.size v).alloc (Nat.le_refl _) (.cells #[.bool false,.slice none 0 0] 25))
   have gI:=hJ (BX.lit v 25 #[.bool false,.slice none 0 0])
   obtain ⟨v56,hV⟩:=nmz (World.alloc v (.cells #[.bool false,.slice none 0 0] 25))
   obtain ⟨aD,hg⟩:=nmz (v.heap.size)
   rw [hV] at dI gI ⊢
   rw [hg] at gI ⊢
   have rV:=hJ (show v4.heap.size≤aD by rw [←hg]; exact aA.out.size)
   have rW:=hJ (show aE≠aD by have:=aW.out.lt; rw [hg] at this; omega)
   clear hV hg
   have kH:=hJ (bt aA.out dI.out)
   have rX:=hJ (PIo.new aS.out dI.out)
   have rY:=hJ (PIo.new bY.out dI.out)
   have rZ:=hJ (BX.new aW.out dI.out)
   clear hHeld
   refine hK.out _ _ (aL.out _ kH.out) (fun hHeld=>?_)
   clear hK K
   try simp only [PT]
   exact wpAnyH_cast (by kernel_rfl) (cJ s13 A13 n13 c13 s14 A14 n14 c14 aD aE v56 kH rX rY gI rV rZ bE (hJ rW.out.symm))
  have cO:∀ (s13:Bool) (A13:Option Addr) (n13:Nat) (c13:Nat) (aD:Nat) (aE:Nat) (v:World),Hid (Below v4.heap.size v4 v)→Hid (PI v s13 A13 n13 c13 gu)→Hid (BX 25 v aD #[.bool false,.slice none 0 0])→Hid (v4.heap.size≤aD)→Hid (BX 25 v aE #[.bool false,.slice none 0 0])→Hid (v4.heap.size≤aE)→Hid (aD≠aE)→F 3 (Array.setIfInBounds (Array.setIfInBounds (Array.setIfInBounds L0 3 true) 8 true) 9 true) (Act.put (Act.put (Act.put a0 (some 22) (.agg #[.bool s13,.slice A13 n13 c13])) (some 8) (.pointer (some ⟨aD,0,none⟩))) (some 9) (.pointer (some ⟨aE,0,none⟩))) v:=by
   intro s13 A13 n13 c13 aD aE v aA aS aQ bD aW bE cK
   subst hF ha0 hL0
   simp only [PT] at cJ ⊢
   have hHeld:=aL.out _ aA.out
   refine ryy [7] ?_
   refine .cons rfl (fun K hK=>?_) .nil
   go_simp
   go_at_call 114
   refine (fcommon_any r q sd s11 Ad A11 nd cd n11 c11 v (PF.new bR.out aA.out).1 (PIo.new bO.out aA.out) (Nat.le_trans (plim (PF.new bR.out aA.out).1 aH.out.2.2.2.2.1) (by decide)) (Nat.le_trans (plim (PIo.new bO.out aA.out) aH.out.2.2.2.1) (by decide))).mono ?_
   rw [show ((Nat.gcd r.natAbs q.natAbs:Nat):Int)=gv from cG.out]
   rintro e v57 ⟨s14,A14,n14,c14,rfl,hr14,hb⟩
   have eK:=hJ hb
   have sA:=hJ hr14
   clear hb hr14
   go_wp2_with fail
   have kI:=hJ (bt aA.out eK.out)
   have sB:=hJ (PIo.new aS.out eK.out)
   have sC:=hJ (BX.new aQ.out eK.out)
   have sD:=hJ (BX.new aW.out eK.out)
   clear hHeld
   refine hK.out _ _ (aL.out _ kI.out) (fun hHeld=>?_)
   clear hK K
   try simp only [PT]
   exact wpAnyH_cast (by kernel_rfl) (cJ s13 A13 n13 c13 s14 A14 n14 c14 aD aE v57 kI sB sA sC bD sD bE (hJ cK.out))
  have kJ:∀ (s13:Bool) (A13:Option Addr) (n13:Nat) (c13:Nat) (s14:Bool) (A14:Option Addr) (n14:Nat) (c14:Nat) (v:World),Hid (Below v4.heap.size v4 v)→Hid (PI v s13 A13 n13 c13 gu)→Hid (PI v s14 A14 n14 c14 gv)→F 4 (Array.setIfInBounds (Array.setIfInBounds L0 3 true) 7 true) (Act.put (Act.put a0 (some 22) (.agg #[.bool s13,.slice A13 n13 c13])) (some 26) (.agg #[.bool s14,.slice A14 n14 c14])) v:=by
   intro s13 A13 n13 c13 s14 A14 n14 c14 v aA aS bY
   subst hF ha0 hL0
   simp only [PT] at eI eJ ⊢
   have hHeld:=aL.out _ aA.out
   refine ryy [8,9] ?_
   refine .cons rfl (fun K hK=>?_) ?_
   go_simp
   have eL:=hJ ((Below.refl v.heap.size v).alloc (Nat.le_refl _) (.cells #[.bool false,.slice none 0 0] 25))
   have gJ:=hJ (BX.lit v 25 #[.bool false,.slice none 0 0])
   obtain ⟨v58,hV⟩:=nmz (World.alloc v (.cells #[.bool false,.slice none 0 0] 25))
   obtain ⟨aD,hg⟩:=nmz (v.heap.size)
   rw [hV] at eL gJ ⊢
   rw [hg] at gJ ⊢
   have sE:=hJ (show v4.heap.size≤aD by rw [←hg]; exact aA.out.size)
   clear hV hg
   have kK:=hJ (bt aA.out eL.out)
   have sF:=hJ (PIo.new aS.out eL.out)
   have sG:=hJ (PIo.new bY.out eL.out)
   clear hHeld
   refine hK.out _ _ (aL.out _ kK.out) (fun hHeld=>?_)
   clear hK K
   try simp only [PT]
   exact wpAnyH_cast (by kernel_rfl) (eI s13 A13 n13 c13 s14 A14 n14 c14 aD v58 kK sF sG gJ sE)
   refine .cons rfl (fun K hK=>?_) .nil
   go_simp
   have eM:=hJ ((Below.refl v.heap.size v).alloc (Nat.le_refl _) (.cells #[.bool false,.slice none 0 0] 25))
   have gK:=hJ (BX.lit v 25 #[.bool false,.slice none 0 0])
   obtain ⟨v59,hV⟩:=nmz (World.alloc v (.cells #[.bool false,.slice none 0 0] 25))
   obtain ⟨aE,hg⟩:=nmz (v.heap.size)
   rw [hV] at eM gK ⊢
   rw [hg] at gK ⊢
   have sH:=hJ (show v4.heap.size≤aE by rw [←hg]; exact aA.out.size)
   clear hV hg
   have kL:=hJ (bt aA.out eM.out)
   have sI:=hJ (PIo.new aS.out eM.out)
   have sJ:=hJ (PIo.new bY.out eM.out)
   clear hHeld
   refine hK.out _ _ (aL.out _ kL.out) (fun hHeld=>?_)
   clear hK K
   try simp only [PT]
   exact wpAnyH_cast (by kernel_rfl) (eJ s13 A13 n13 c13 s14 A14 n14 c14 aE v59 kL sI sJ gK sH)
  have eN:∀ (s13:Bool) (A13:Option Addr) (n13:Nat) (c13:Nat) (aD:Nat) (v:World),Hid (Below v4.heap.size v4 v)→Hid (PI v s13 A13 n13 c13 gu)→Hid (BX 25 v aD #[.bool false,.slice none 0 0])→Hid (v4.heap.size≤aD)→F 4 (Array.setIfInBounds (Array.setIfInBounds L0 3 true) 8 true) (Act.put (Act.put a0 (some 22) (.agg #[.bool s13,.slice A13 n13 c13])) (some 8) (.pointer (some ⟨aD,0,none⟩))) v:=by
   intro s13 A13 n13 c13 aD v aA aS aQ bD
   subst hF ha0 hL0
   simp only [PT] at eI cO ⊢
   have hHeld:=aL.out _ aA.out
   refine ryy [7,9] ?_
   refine .cons rfl (fun K hK=>?_) ?_
   go_simp
   go_at_call 114
   refine (fcommon_any r q sd s11 Ad A11 nd cd n11 c11 v (PF.new bR.out aA.out).1 (PIo.new bO.out aA.out) (Nat.le_trans (plim (PF.new bR.out aA.out).1 aH.out.2.2.2.2.1) (by decide)) (Nat.le_trans (plim (PIo.new bO.out aA.out) aH.out.2.2.2.1) (by decide))).mono ?_
   rw [show ((Nat.gcd r.natAbs q.natAbs:Nat):Int)=gv from cG.out]
   rintro e v60 ⟨s14,A14,n14,c14,rfl,hr14,hb⟩
   have gL:=hJ hb
   have sK:=hJ hr14
   clear hb hr14
   go_wp2_with fail
   have kM:=hJ (bt aA.out gL.out)
   have sL:=hJ (PIo.new aS.out gL.out)
   have sM:=hJ (BX.new aQ.out gL.out)
   clear hHeld
   refine hK.out _ _ (aL.out _ kM.out) (fun hHeld=>?_)
   clear hK K
   try simp only [PT]
   exact wpAnyH_cast (by kernel_rfl) (eI s13 A13 n13 c13 s14 A14 n14 c14 aD v60 kM sL sK sM bD)
   refine .cons rfl (fun K hK=>?_) .nil
   go_simp
   have eO:=hJ ((Below.refl v.heap.size v).alloc (Nat.le_refl _) (.cells #[.bool false,.slice none 0 0] 25))
   have gM:=hJ (BX.lit v 25 #[.bool false,.slice none 0 0])
   obtain ⟨v61,hV⟩:=nmz (World.alloc v (.cells #[.bool false,.slice none 0 0] 25))
   obtain ⟨aE,hg⟩:=nmz (v.heap.size)
   rw [hV] at eO gM ⊢
   rw [hg] at gM ⊢
   have sN:=hJ (show v4.heap.size≤aE by rw [←hg]; exact aA.out.size)
   have sO:=hJ (show aD≠aE by have:=aQ.out.lt; rw [hg] at this; omega)
   clear hV hg
   have kN:=hJ (bt aA.out eO.out)
   have sP:=hJ (PIo.new aS.out eO.out)
   have sQ:=hJ (BX.new aQ.out eO.out)
   clear hHeld
   refine hK.out _ _ (aL.out _ kN.out) (fun hHeld=>?_)
   clear hK K
   try simp only [PT]
   exact wpAnyH_cast (by kernel_rfl) (cO s13 A13 n13 c13 aD aE v61 kN sP sQ bD gM sN (hJ sO.out))
  have eP:∀ (s13:Bool) (A13:Option Addr) (n13:Nat) (c13:Nat) (aE:Nat) (v:World),Hid (Below v4.heap.size v4 v)→Hid (PI v s13 A13 n13 c13 gu)→Hid (BX 25 v aE #[.bool false,.slice none 0 0])→Hid (v4.heap.size≤aE)→F 4 (Array.setIfInBounds (Array.setIfInBounds L0 3 true) 9 true) (Act.put (Act.put a0 (some 22) (.agg #[.bool s13,.slice A13 n13 c13])) (some 9) (.pointer (some ⟨aE,0,none⟩))) v:=by
   intro s13 A13 n13 c13 aE v aA aS aW bE
   subst hF ha0 hL0
   simp only [PT] at eJ cO ⊢
   have hHeld:=aL.out _ aA.out
   refine ryy [7,8] ?_
   refine .cons rfl (fun K hK=>?_) ?_
   go_simp
   go_at_call 114
   refine (fcommon_any r q sd s11 Ad A11 nd cd n11 c11 v (PF.new bR.out aA.out).1 (PIo.new bO.out aA.out) (Nat.le_trans (plim (PF.new bR.out aA.out).1 aH.out.2.2.2.2.1) (by decide)) (Nat.le_trans (plim (PIo.new bO.out aA.out) aH.out.2.2.2.1) (by decide))).mono ?_
   rw [show ((Nat.gcd r.natAbs q.natAbs:Nat):Int)=gv from cG.out]
   rintro e v62 ⟨s14,A14,n14,c14,rfl,hr14,hb⟩
   have gN:=hJ hb
   have sR:=hJ hr14
   clear hb hr14
   go_wp2_with fail
   have kO:=hJ (bt aA.out gN.out)
   have sS:=hJ (PIo.new aS.out gN.out)
   have sT:=hJ (BX.new aW.out gN.out)
   clear hHeld
   refine hK.out _ _ (aL.out _ kO.out) (fun hHeld=>?_)
   clear hK K
   try simp only [PT]
   exact wpAnyH_cast (by kernel_rfl) (eJ s13 A13 n13 c13 s14 A14 n14 c14 aE v62 kO sS sR sT bE)
   refine .cons rfl (fun K hK=>?_) .nil
   go_simp
   have eQ:=hJ ((Below.refl v.heap.size v).alloc (Nat.le_refl _) (.cells #[.bool false,.slice none 0 0] 25))
   have gO:=hJ (BX.lit v 25 #[.bool false,.slice none 0 0])
   obtain ⟨v63,hV⟩:=nmz (World.alloc v (.cells #[.bool false,.slice none 0 0] 25))
   obtain ⟨aD,hg⟩:=nmz (v.heap.size)
   rw [hV] at eQ gO ⊢
   rw [hg] at gO ⊢
   have sU:=hJ (show v4.heap.size≤aD by rw [←hg]; exact aA.out.size)
   have sV:=hJ (show aE≠aD by have:=aW.out.lt; rw [hg] at this; omega)
   clear hV hg
   have kP:=hJ (bt aA.out eQ.out)
   have sW:=hJ (PIo.new aS.out eQ.out)
   have sX:=hJ (BX.new aW.out eQ.out)
   clear hHeld
   refine hK.out _ _ (aL.out _ kP.out) (fun hHeld=>?_)
   clear hK K
   try simp only [PT]
   exact wpAnyH_cast (by kernel_rfl) (cO s13 A13 n13 c13 aD aE v63 kP sW gO sU sX bE (hJ sV.out.symm))
  have eR:∀ (aD:Nat) (aE:Nat) (v:World),Hid (Below v4.heap.size v4 v)→Hid (BX 25 v aD #[.bool false,.slice none 0 0])→Hid (v4.heap.size≤aD)→Hid (BX 25 v aE #[.bool false,.slice none 0 0])→Hid (v4.heap.size≤aE)→Hid (aD≠aE)→F 4 (Array.setIfInBounds (Array.setIfInBounds L0 8 true) 9 true) (Act.put (Act.put a0 (some 8) (.pointer (some ⟨aD,0,none⟩))) (some 9) (.pointer (some ⟨aE,0,none⟩))) v:=by
   intro aD aE v aA aQ bD aW bE cK
   subst hF ha0 hL0
   simp only [PT] at cO ⊢
   have hHeld:=aL.out _ aA.out
   refine ryy [3] ?_
   refine .cons rfl (fun K hK=>?_) .nil
   go_simp
   go_at_call 114
   refine (fcommon_any p s sa s12 Aa A12 na ca n12 c12 v (PF.new bQ.out aA.out).1 (PIo.new bP.out aA.out) (Nat.le_trans (plim (PF.new bQ.out aA.out).1 aH.out.2.2.1) (by decide)) (Nat.le_trans (plim (PIo.new bP.out aA.out) aH.out.2.2.2.2.2) (by decide))).mono ?_
   rw [show ((Nat.gcd p.natAbs s.natAbs:Nat):Int)=gu from HU.out]
   rintro e v64 ⟨s13,A13,n13,c13,rfl,hr13,hb⟩
   have gP:=hJ hb
   have sY:=hJ hr13
   clear hb hr13
   go_wp2_with fail
   have kQ:=hJ (bt aA.out gP.out)
   have sZ:=hJ (BX.new aQ.out gP.out)
   have tA:=hJ (BX.new aW.out gP.out)
   clear hHeld
   refine hK.out _ _ (aL.out _ kQ.out) (fun hHeld=>?_)
   clear hK K
   try simp only [PT]
   exact wpAnyH_cast (by kernel_rfl) (cO s13 A13 n13 c13 aD aE v64 kQ sY sZ bD tA bE (hJ cK.out))
  have kR:∀ (s13:Bool) (A13:Option Addr) (n13:Nat) (c13:Nat) (v:World),Hid (Below v4.heap.size v4 v)→Hid (PI v s13 A13 n13 c13 gu)→F 5 (Array.setIfInBounds L0 3 true) (Act.put a0 (some 22) (.agg #[.bool s13,.slice A13 n13 c13])) v:=by
   intro s13 A13 n13 c13 v aA aS
   subst hF ha0 hL0
   simp only [PT] at kJ eN eP ⊢
   have hHeld:=aL.out _ aA.out
   refine ryy [7,8,9] ?_
   refine .cons rfl (fun K hK=>?_) ?_
   go_simp
   go_at_call 114
   refine (fcommon_any r q sd s11 Ad A11 nd cd n11 c11 v (PF.new bR.out aA.out).1 (PIo.new bO.out aA.out) (Nat.le_trans (plim (PF.new bR.out aA.out).1 aH.out.2.2.2.2.1) (by decide)) (Nat.le_trans (plim (PIo.new bO.out aA.out) aH.out.2.2.2.1) (by decide))).mono ?_
   rw [show ((Nat.gcd r.natAbs q.natAbs:Nat):Int)=gv from cG.out]
   rintro e v65 ⟨s14,A14,n14,c14,rfl,hr14,hb⟩
   have kS:=hJ hb
   have tB:=hJ hr14
   clear hb hr14
   go_wp2_with fail
   have kT:=hJ (bt aA.out kS.out)
   have tC:=hJ (PIo.new aS.out kS.out)
   clear hHeld
   refine hK.out _ _ (aL.out _ kT.out) (fun hHeld=>?_)
   clear hK K
   try simp only [PT]
   exact wpAnyH_cast (by kernel_rfl) (kJ s13 A13 n13 c13 s14 A14 n14 c14 v65 kT tC tB)
   refine .cons rfl (fun K hK=>?_) ?_
   go_simp
   have gQ:=hJ ((Below.refl v.heap.size v).alloc (Nat.le_refl _) (.cells #[.bool false,.slice none 0 0] 25))
   have gR:=hJ (BX.lit v 25 #[.bool false,.slice none 0 0])
   obtain ⟨v66,hV⟩:=nmz (World.alloc v (.cells #[.bool false,.slice none 0 0] 25))
   obtain ⟨aD,hg⟩:=nmz (v.heap.size)
   rw [hV] at gQ gR ⊢
   rw [hg] at gR ⊢
   have tD:=hJ (show v4.heap.size≤aD by rw [←hg]; exact aA.out.size)
   clear hV hg
   have kU:=hJ (bt aA.out gQ.out)
   have tE:=hJ (PIo.new aS.out gQ.out)
   clear hHeld
   refine hK.out _ _ (aL.out _ kU.out) (fun hHeld=>?_)
   clear hK K
   try simp only [PT]
   exact wpAnyH_cast (by kernel_rfl) (eN s13 A13 n13 c13 aD v66 kU tE gR tD)
   refine .cons rfl (fun K hK=>?_) .nil
   go_simp
   have gS:=hJ ((Below.refl v.heap.size v).alloc (Nat.le_refl _) (.cells #[.bool false,.slice none 0 0] 25))
   have gT:=hJ (BX.lit v 25 #[.bool false,.slice none 0 0])
   obtain ⟨v67,hV⟩:=nmz (World.alloc v (.cells #[.bool false,.slice none 0 0] 25))
   obtain ⟨aE,hg⟩:=nmz (v.heap.size)
   rw [hV] at gS gT ⊢
   rw [hg] at gT ⊢
   have tF:=hJ (show v4.heap.size≤aE by rw [←hg]; exact aA.out.size)
   clear hV hg
   have kV:=hJ (bt aA.out gS.out)
   have tG:=hJ (PIo.new aS.out gS.out)
   clear hHeld
   refine hK.out _ _ (aL.out _ kV.out) (fun hHeld=>?_)
   clear hK K
   try simp only [PT]
   exact wpAnyH_cast (by kernel_rfl) (eP s13 A13 n13 c13 aE v67 kV tG gT tF)
  have kW:∀ (aD:Nat) (v:World),Hid (Below v4.heap.size v4 v)→Hid (BX 25 v aD #[.bool false,.slice none 0 0])→Hid (v4.heap.size≤aD)→F 5 (Array.setIfInBounds L0 8 true) (Act.put a0 (some 8) (.pointer (some ⟨aD,0,none⟩))) v:=by
   intro aD v aA aQ bD
   subst hF ha0 hL0
   simp only [PT] at eN eR ⊢
   have hHeld:=aL.out _ aA.out
   refine ryy [3,9] ?_
   refine .cons rfl (fun K hK=>?_) ?_
   go_simp
   go_at_call 114
   refine (fcommon_any p s sa s12 Aa A12 na ca n12 c12 v (PF.new bQ.out aA.out).1 (PIo.new bP.out aA.out) (Nat.le_trans (plim (PF.new bQ.out aA.out).1 aH.out.2.2.1) (by decide)) (Nat.le_trans (plim (PIo.new bP.out aA.out) aH.out.2.2.2.2.2) (by decide))).mono ?_
   rw [show ((Nat.gcd p.natAbs s.natAbs:Nat):Int)=gu from HU.out]
   rintro e v68 ⟨s13,A13,n13,c13,rfl,hr13,hb⟩
   have kX:=hJ hb
   have tH:=hJ hr13
   clear hb hr13
   go_wp2_with fail
   have kY:=hJ (bt aA.out kX.out)
   have tI:=hJ (BX.new aQ.out kX.out)
   clear hHeld
   refine hK.out _ _ (aL.out _ kY.out) (fun hHeld=>?_)
   clear hK K
   try simp only [PT]
   exact wpAnyH_cast (by kernel_rfl) (eN s13 A13 n13 c13 aD v68 kY tH tI bD)
   refine .cons rfl (fun K hK=>?_) .nil
   go_simp
   have gU:=hJ ((Below.refl v.heap.size v).alloc (Nat.le_refl _) (.cells #[.bool false,.slice none 0 0] 25))
   have gV:=hJ (BX.lit v 25 #[.bool false,.slice none 0 0])
   obtain ⟨v69,hV⟩:=nmz (World.alloc v (.cells #[.bool false,.slice none 0 0] 25))
   obtain ⟨aE,hg⟩:=nmz (v.heap.size)
   rw [hV] at gU gV ⊢
   rw [hg] at gV ⊢
   have tJ:=hJ (show v4.heap.size≤aE by rw [←hg]; exact aA.out.size)
   have tK:=hJ (show aD≠aE by have:=aQ.out.lt; rw [hg] at this; omega)
   clear hV hg
   have kZ:=hJ (bt aA.out gU.out)
   have tL:=hJ (BX.new aQ.out gU.out)
   clear hHeld
   refine hK.out _ _ (aL.out _ kZ.out) (fun hHeld=>?_)
   clear hK K
   try simp only [PT]
   exact wpAnyH_cast (by kernel_rfl) (eR aD aE v69 kZ tL bD gV tJ (hJ tK.out))
  have lA:∀ (aE:Nat) (v:World),Hid (Below v4.heap.size v4 v)→Hid (BX 25 v aE #[.bool false,.slice none 0 0])→Hid (v4.heap.size≤aE)→F 5 (Array.setIfInBounds L0 9 true) (Act.put a0 (some 9) (.pointer (some ⟨aE,0,none⟩))) v:=by
   intro aE v aA aW bE
   subst hF ha0 hL0
   simp only [PT] at eP eR ⊢
   have hHeld:=aL.out _ aA.out
   refine ryy [3,8] ?_
   refine .cons rfl (fun K hK=>?_) ?_
   go_simp
   go_at_call 114
   refine (fcommon_any p s sa s12 Aa A12 na ca n12 c12 v (PF.new bQ.out aA.out).1 (PIo.new bP.out aA.out) (Nat.le_trans (plim (PF.new bQ.out aA.out).1 aH.out.2.2.1) (by decide)) (Nat.le_trans (plim (PIo.new bP.out aA.out) aH.out.2.2.2.2.2) (by decide))).mono ?_
   rw [show ((Nat.gcd p.natAbs s.natAbs:Nat):Int)=gu from HU.out]
   rintro e v70 ⟨s13,A13,n13,c13,rfl,hr13,hb⟩
   have lB:=hJ hb
   have tM:=hJ hr13
   clear hb hr13
   go_wp2_with fail
   have lC:=hJ (bt aA.out lB.out)
   have tN:=hJ (BX.new aW.out lB.out)
   clear hHeld
   refine hK.out _ _ (aL.out _ lC.out) (fun hHeld=>?_)
   clear hK K
   try simp only [PT]
   exact wpAnyH_cast (by kernel_rfl) (eP s13 A13 n13 c13 aE v70 lC tM tN bE)
   refine .cons rfl (fun K hK=>?_) .nil
   go_simp
   have gW:=hJ ((Below.refl v.heap.size v).alloc (Nat.le_refl _) (.cells #[.bool false,.slice none 0 0] 25))
   have gX:=hJ (BX.lit v 25 #[.bool false,.slice none 0 0])
   obtain ⟨v71,hV⟩:=nmz (World.alloc v (.cells #[.bool false,.slice none 0 0] 25))
   obtain ⟨aD,hg⟩:=nmz (v.heap.size)
   rw [hV] at gW gX ⊢
   rw [hg] at gX ⊢
   have tO:=hJ (show v4.heap.size≤aD by rw [←hg]; exact aA.out.size)
   have tP:=hJ (show aE≠aD by have:=aW.out.lt; rw [hg] at this; omega)
   clear hV hg
   have lD:=hJ (bt aA.out gW.out)
   have tQ:=hJ (BX.new aW.out gW.out)
   clear hHeld
   refine hK.out _ _ (aL.out _ lD.out) (fun hHeld=>?_)
   clear hK K
   try simp only [PT]
   exact wpAnyH_cast (by kernel_rfl) (eR aD aE v71 lD gX tO tQ bE (hJ tP.out.symm))
  subst hF ha0 hL0
  simp only [PT] at kR kW lA
  refine ryy [3,8,9] ?_
  refine .cons rfl (fun K hK=>?_) ?_
  go_simp
  go_at_call 114
  refine (fcommon_any p s sa s12 Aa A12 na ca n12 c12 v7 (PF.new bQ.out bS.out).1 (PIo.new bP.out bS.out) (Nat.le_trans (plim (PF.new bQ.out bS.out).1 aH.out.2.2.1) (by decide)) (Nat.le_trans (plim (PIo.new bP.out bS.out) aH.out.2.2.2.2.2) (by decide))).mono ?_
  rw [show ((Nat.gcd p.natAbs s.natAbs:Nat):Int)=gu from HU.out]
  rintro e v72 ⟨s13,A13,n13,c13,rfl,hr13,hb⟩
  have tR:=hJ hb
  have tS:=hJ hr13
  clear hb hr13
  go_wp2_with fail
  have lE:=hJ (bt bS.out tR.out)
  clear hHeld
  refine hK.out _ _ (aL.out _ lE.out) (fun hHeld=>?_)
  clear hK K
  try simp only [PT]
  exact wpAnyH_cast (by kernel_rfl) (kR s13 A13 n13 c13 v72 lE tS)
  refine .cons rfl (fun K hK=>?_) ?_
  go_simp
  have lF:=hJ ((Below.refl v7.heap.size v7).alloc (Nat.le_refl _) (.cells #[.bool false,.slice none 0 0] 25))
  have gY:=hJ (BX.lit v7 25 #[.bool false,.slice none 0 0])
  obtain ⟨v73,hV⟩:=nmz (World.alloc v7 (.cells #[.bool false,.slice none 0 0] 25))
  obtain ⟨aD,hg⟩:=nmz (v7.heap.size)
  rw [hV] at lF gY ⊢
  rw [hg] at gY ⊢
  have tT:=hJ (show v4.heap.size≤aD by rw [←hg]; exact bS.out.size)
  clear hV hg
  have lG:=hJ (bt bS.out lF.out)
  clear hHeld
  refine hK.out _ _ (aL.out _ lG.out) (fun hHeld=>?_)
  clear hK K
  try simp only [PT]
  exact wpAnyH_cast (by kernel_rfl) (kW aD v73 lG gY tT)
  refine .cons rfl (fun K hK=>?_) .nil
  go_simp
  have lH:=hJ ((Below.refl v7.heap.size v7).alloc (Nat.le_refl _) (.cells #[.bool false,.slice none 0 0] 25))
  have gZ:=hJ (BX.lit v7 25 #[.bool false,.slice none 0 0])
  obtain ⟨v74,hV⟩:=nmz (World.alloc v7 (.cells #[.bool false,.slice none 0 0] 25))
  obtain ⟨aE,hg⟩:=nmz (v7.heap.size)
  rw [hV] at lH gZ ⊢
  rw [hg] at gZ ⊢
  have tU:=hJ (show v4.heap.size≤aE by rw [←hg]; exact bS.out.size)
  clear hV hg
  have lI:=hJ (bt bS.out lH.out)
  clear hHeld
  refine hK.out _ _ (aL.out _ lI.out) (fun hHeld=>?_)
  clear hK K
  try simp only [PT]
  exact wpAnyH_cast (by kernel_rfl) (lA aE v74 lI gZ tU)
 have eS:∀ (s11:Bool) (A11:Option Addr) (n11:Nat) (c11:Nat) (s12:Bool) (A12:Option Addr) (n12:Nat) (c12:Nat) (aB:Nat) (v:World),Hid (Below x1.heap.size x1 v)→Hid (PI v s11 A11 n11 c11 q)→Hid (PI v s12 A12 n12 c12 s)→Hid (BX 25 v aB #[.bool false,.slice none 0 0])→Hid (x1.heap.size≤aB)→F 3 (Array.setIfInBounds (Array.setIfInBounds (Array.setIfInBounds L0 1 true) 3 true) 4 true) (Act.put (Act.put (Act.put a0 (some 16) (.agg #[.bool s11,.slice A11 n11 c11])) (some 18) (.agg #[.bool s12,.slice A12 n12 c12])) (some 6) (.pointer (some ⟨aB,0,none⟩))) v:=by
  intro s11 A11 n11 c11 s12 A12 n12 c12 aB v aA aR bW aP bB
  subst hF ha0 hL0
  simp only [PT] at cH ⊢
  have hHeld:=aK.out _ aA.out
  refine ryy [5] ?_
  refine .cons rfl (fun K hK=>?_) .nil
  go_simp
  have dJ:=hJ ((Below.refl v.heap.size v).alloc (Nat.le_refl _) (.cells #[.bool false,.slice none 0 0] 25))
  have hA:=hJ (BX.lit v 25 #[.bool false,.slice none 0 0])
  obtain ⟨v75,hV⟩:=nmz (World.alloc v (.cells #[.bool false,.slice none 0 0] 25))
  obtain ⟨aC,hg⟩:=nmz (v.heap.size)
  rw [hV] at dJ hA ⊢
  rw [hg] at hA ⊢
  have tV:=hJ (show x1.heap.size≤aC by rw [←hg]; exact aA.out.size)
  have tW:=hJ (show aB≠aC by have:=aP.out.lt; rw [hg] at this; omega)
  clear hV hg
  have lJ:=hJ (bt aA.out dJ.out)
  have tX:=hJ (PIo.new aR.out dJ.out)
  have tY:=hJ (PIo.new bW.out dJ.out)
  have tZ:=hJ (BX.new aP.out dJ.out)
  clear hHeld
  refine hK.out _ _ (aK.out _ lJ.out) (fun hHeld=>?_)
  clear hK K
  try simp only [PT]
  exact wpAnyH_cast (by kernel_rfl) (cH s11 A11 n11 c11 s12 A12 n12 c12 aB aC v75 lJ tX tY tZ bB hA tV (hJ tW.out))
 have eT:∀ (s11:Bool) (A11:Option Addr) (n11:Nat) (c11:Nat) (s12:Bool) (A12:Option Addr) (n12:Nat) (c12:Nat) (aC:Nat) (v:World),Hid (Below x1.heap.size x1 v)→Hid (PI v s11 A11 n11 c11 q)→Hid (PI v s12 A12 n12 c12 s)→Hid (BX 25 v aC #[.bool false,.slice none 0 0])→Hid (x1.heap.size≤aC)→F 3 (Array.setIfInBounds (Array.setIfInBounds (Array.setIfInBounds L0 1 true) 3 true) 5 true) (Act.put (Act.put (Act.put a0 (some 16) (.agg #[.bool s11,.slice A11 n11 c11])) (some 18) (.agg #[.bool s12,.slice A12 n12 c12])) (some 7) (.pointer (some ⟨aC,0,none⟩))) v:=by
  intro s11 A11 n11 c11 s12 A12 n12 c12 aC v aA aR bW aV bC
  subst hF ha0 hL0
  simp only [PT] at cH ⊢
  have hHeld:=aK.out _ aA.out
  refine ryy [4] ?_
  refine .cons rfl (fun K hK=>?_) .nil
  go_simp
  have dK:=hJ ((Below.refl v.heap.size v).alloc (Nat.le_refl _) (.cells #[.bool false,.slice none 0 0] 25))
  have hB:=hJ (BX.lit v 25 #[.bool false,.slice none 0 0])
  obtain ⟨v76,hV⟩:=nmz (World.alloc v (.cells #[.bool false,.slice none 0 0] 25))
  obtain ⟨aB,hg⟩:=nmz (v.heap.size)
  rw [hV] at dK hB ⊢
  rw [hg] at hB ⊢
  have uA:=hJ (show x1.heap.size≤aB by rw [←hg]; exact aA.out.size)
  have uB:=hJ (show aC≠aB by have:=aV.out.lt; rw [hg] at this; omega)
  clear hV hg
  have lK:=hJ (bt aA.out dK.out)
  have uC:=hJ (PIo.new aR.out dK.out)
  have uD:=hJ (PIo.new bW.out dK.out)
  have uE:=hJ (BX.new aV.out dK.out)
  clear hHeld
  refine hK.out _ _ (aK.out _ lK.out) (fun hHeld=>?_)
  clear hK K
  try simp only [PT]
  exact wpAnyH_cast (by kernel_rfl) (cH s11 A11 n11 c11 s12 A12 n12 c12 aB aC v76 lK uC uD hB uA uE bC (hJ uB.out.symm))
 have cP:∀ (s11:Bool) (A11:Option Addr) (n11:Nat) (c11:Nat) (aB:Nat) (aC:Nat) (v:World),Hid (Below x1.heap.size x1 v)→Hid (PI v s11 A11 n11 c11 q)→Hid (BX 25 v aB #[.bool false,.slice none 0 0])→Hid (x1.heap.size≤aB)→Hid (BX 25 v aC #[.bool false,.slice none 0 0])→Hid (x1.heap.size≤aC)→Hid (aB≠aC)→F 3 (Array.setIfInBounds (Array.setIfInBounds (Array.setIfInBounds L0 1 true) 4 true) 5 true) (Act.put (Act.put (Act.put a0 (some 16) (.agg #[.bool s11,.slice A11 n11 c11])) (some 6) (.pointer (some ⟨aB,0,none⟩))) (some 7) (.pointer (some ⟨aC,0,none⟩))) v:=by
  intro s11 A11 n11 c11 aB aC v aA aR aP bB aV bC cI
  subst hF ha0 hL0
  simp only [PT] at cH ⊢
  have hHeld:=aK.out _ aA.out
  refine ryy [3] ?_
  refine .cons rfl (fun K hK=>?_) .nil
  go_simp
  go_at_call 36
  refine (den_any r s sd se Ad Ae nd cd ne ce v (PF.new bM.out aA.out) (Nat.le_trans (plim (PF.new bM.out aA.out).2 (dn_lim aH.out.2.2.2.2.2)) (by decide)) aH.out.2.1).mono ?_
  rintro e v77 ⟨s12,A12,n12,c12,rfl,hr12,hb⟩
  have eU:=hJ hb
  have uF:=hJ hr12
  clear hb hr12
  go_wp2_with fail
  have lL:=hJ (bt aA.out eU.out)
  have uG:=hJ (PIo.new aR.out eU.out)
  have uH:=hJ (BX.new aP.out eU.out)
  have uI:=hJ (BX.new aV.out eU.out)
  clear hHeld
  refine hK.out _ _ (aK.out _ lL.out) (fun hHeld=>?_)
  clear hK K
  try simp only [PT]
  exact wpAnyH_cast (by kernel_rfl) (cH s11 A11 n11 c11 s12 A12 n12 c12 aB aC v77 lL uG uF uH bB uI bC (hJ cI.out))
 have lM:∀ (s11:Bool) (A11:Option Addr) (n11:Nat) (c11:Nat) (s12:Bool) (A12:Option Addr) (n12:Nat) (c12:Nat) (v:World),Hid (Below x1.heap.size x1 v)→Hid (PI v s11 A11 n11 c11 q)→Hid (PI v s12 A12 n12 c12 s)→F 4 (Array.setIfInBounds (Array.setIfInBounds L0 1 true) 3 true) (Act.put (Act.put a0 (some 16) (.agg #[.bool s11,.slice A11 n11 c11])) (some 18) (.agg #[.bool s12,.slice A12 n12 c12])) v:=by
  intro s11 A11 n11 c11 s12 A12 n12 c12 v aA aR bW
  subst hF ha0 hL0
  simp only [PT] at eS eT ⊢
  have hHeld:=aK.out _ aA.out
  refine ryy [4,5] ?_
  refine .cons rfl (fun K hK=>?_) ?_
  go_simp
  have eV:=hJ ((Below.refl v.heap.size v).alloc (Nat.le_refl _) (.cells #[.bool false,.slice none 0 0] 25))
  have hC:=hJ (BX.lit v 25 #[.bool false,.slice none 0 0])
  obtain ⟨v78,hV⟩:=nmz (World.alloc v (.cells #[.bool false,.slice none 0 0] 25))
  obtain ⟨aB,hg⟩:=nmz (v.heap.size)
  rw [hV] at eV hC ⊢
  rw [hg] at hC ⊢
  have uJ:=hJ (show x1.heap.size≤aB by rw [←hg]; exact aA.out.size)
  clear hV hg
  have lN:=hJ (bt aA.out eV.out)
  have uK:=hJ (PIo.new aR.out eV.out)
  have uL:=hJ (PIo.new bW.out eV.out)
  clear hHeld
  refine hK.out _ _ (aK.out _ lN.out) (fun hHeld=>?_)
  clear hK K
  try simp only [PT]
  exact wpAnyH_cast (by kernel_rfl) (eS s11 A11 n11 c11 s12 A12 n12 c12 aB v78 lN uK uL hC uJ)
  refine .cons rfl (fun K hK=>?_) .nil
  go_simp
  have eW:=hJ ((Below.refl v.heap.size v).alloc (Nat.le_refl _) (.cells #[.bool false,.slice none 0 0] 25))
  have hD:=hJ (BX.lit v 25 #[.bool false,.slice none 0 0])
  obtain ⟨v79,hV⟩:=nmz (World.alloc v (.cells #[.bool false,.slice none 0 0] 25))
  obtain ⟨aC,hg⟩:=nmz (v.heap.size)
  rw [hV] at eW hD ⊢
  rw [hg] at hD ⊢
  have uM:=hJ (show x1.heap.size≤aC by rw [←hg]; exact aA.out.size)
  clear hV hg
  have lO:=hJ (bt aA.out eW.out)
  have uN:=hJ (PIo.new aR.out eW.out)
  have uO:=hJ (PIo.new bW.out eW.out)
  clear hHeld
  refine hK.out _ _ (aK.out _ lO.out) (fun hHeld=>?_)
  clear hK K
  try simp only [PT]
  exact wpAnyH_cast (by kernel_rfl) (eT s11 A11 n11 c11 s12 A12 n12 c12 aC v79 lO uN uO hD uM)
 have eX:∀ (s11:Bool) (A11:Option Addr) (n11:Nat) (c11:Nat) (aB:Nat) (v:World),Hid (Below x1.heap.size x1 v)→Hid (PI v s11 A11 n11 c11 q)→Hid (BX 25 v aB #[.bool false,.slice none 0 0])→Hid (x1.heap.size≤aB)→F 4 (Array.setIfInBounds (Array.setIfInBounds L0 1 true) 4 true) (Act.put (Act.put a0 (some 16) (.agg #[.bool s11,.slice A11 n11 c11])) (some 6) (.pointer (some ⟨aB,0,none⟩))) v:=by
  intro s11 A11 n11 c11 aB v aA aR aP bB
  subst hF ha0 hL0
  simp only [PT] at eS cP ⊢
  have hHeld:=aK.out _ aA.out
  refine ryy [3,5] ?_
  refine .cons rfl (fun K hK=>?_) ?_
  go_simp
  go_at_call 36
  refine (den_any r s sd se Ad Ae nd cd ne ce v (PF.new bM.out aA.out) (Nat.le_trans (plim (PF.new bM.out aA.out).2 (dn_lim aH.out.2.2.2.2.2)) (by decide)) aH.out.2.1).mono ?_
  rintro e v80 ⟨s12,A12,n12,c12,rfl,hr12,hb⟩
  have hE:=hJ hb
  have uP:=hJ hr12
  clear hb hr12
  go_wp2_with fail
  have lP:=hJ (bt aA.out hE.out)
  have uQ:=hJ (PIo.new aR.out hE.out)
  have uR:=hJ (BX.new aP.out hE.out)
  clear hHeld
  refine hK.out _ _ (aK.out _ lP.out) (fun hHeld=>?_)
  clear hK K
  try simp only [PT]
  exact wpAnyH_cast (by kernel_rfl) (eS s11 A11 n11 c11 s12 A12 n12 c12 aB v80 lP uQ uP uR bB)
  refine .cons rfl (fun K hK=>?_) .nil
  go_simp
  have eY:=hJ ((Below.refl v.heap.size v).alloc (Nat.le_refl _) (.cells #[.bool false,.slice none 0 0] 25))
  have hG:=hJ (BX.lit v 25 #[.bool false,.slice none 0 0])
  obtain ⟨v81,hV⟩:=nmz (World.alloc v (.cells #[.bool false,.slice none 0 0] 25))
  obtain ⟨aC,hg⟩:=nmz (v.heap.size)
  rw [hV] at eY hG ⊢
  rw [hg] at hG ⊢
  have uS:=hJ (show x1.heap.size≤aC by rw [←hg]; exact aA.out.size)
  have uT:=hJ (show aB≠aC by have:=aP.out.lt; rw [hg] at this; omega)
  clear hV hg
  have lQ:=hJ (bt aA.out eY.out)
  have uU:=hJ (PIo.new aR.out eY.out)
  have uV:=hJ (BX.new aP.out eY.out)
  clear hHeld
  refine hK.out _ _ (aK.out _ lQ.out) (fun hHeld=>?_)
  clear hK K
  try simp only [PT]
  exact wpAnyH_cast (by kernel_rfl) (cP s11 A11 n11 c11 aB aC v81 lQ uU uV bB hG uS (hJ uT.out))
 have eZ:∀ (s11:Bool) (A11:Option Addr) (n11:Nat) (c11:Nat) (aC:Nat) (v:World),Hid (Below x1.heap.size x1 v)→Hid (PI v s11 A11 n11 c11 q)→Hid (BX 25 v aC #[.bool false,.slice none 0 0])→Hid (x1.heap.size≤aC)→F 4 (Array.setIfInBounds (Array.setIfInBounds L0 1 true) 5 true) (Act.put (Act.put a0 (some 16) (.agg #[.bool s11,.slice A11 n11 c11])) (some 7) (.pointer (some ⟨aC,0,none⟩))) v:=by
  intro s11 A11 n11 c11 aC v aA aR aV bC
  subst hF ha0 hL0
  simp only [PT] at eT cP ⊢
  have hHeld:=aK.out _ aA.out
  refine ryy [3,4] ?_
  refine .cons rfl (fun K hK=>?_) ?_
  go_simp
  go_at_call 36
  refine (den_any r s sd se Ad Ae nd cd ne ce v (PF.new bM.out aA.out) (Nat.le_trans (plim (PF.new bM.out aA.out).2 (dn_lim aH.out.2.2.2.2.2)) (by decide)) aH.out.2.1).mono ?_
  rintro e v82 ⟨s12,A12,n12,c12,rfl,hr12,hb⟩
  have hH:=hJ hb
  have uW:=hJ hr12
  clear hb hr12
  go_wp2_with fail
  have lR:=hJ (bt aA.out hH.out)
  have uX:=hJ (PIo.new aR.out hH.out)
  have uY:=hJ (BX.new aV.out hH.out)
  clear hHeld
  refine hK.out _ _ (aK.out _ lR.out) (fun hHeld=>?_)
  clear hK K
  try simp only [PT]
  exact wpAnyH_cast (by kernel_rfl) (eT s11 A11 n11 c11 s12 A12 n12 c12 aC v82 lR uX uW uY bC)
  refine .cons rfl (fun K hK=>?_) .nil
  go_simp
  have fA:=hJ ((Below.refl v.heap.size v).alloc (Nat.le_refl _) (.cells #[.bool false,.slice none 0 0] 25))
  have hI:=hJ (BX.lit v 25 #[.bool false,.slice none 0 0])
  obtain ⟨v83,hV⟩:=nmz (World.alloc v (.cells #[.bool false,.slice none 0 0] 25))
  obtain ⟨aB,hg⟩:=nmz (v.heap.size)
  rw [hV] at fA hI ⊢
  rw [hg] at hI ⊢
  have uZ:=hJ (show x1.heap.size≤aB by rw [←hg]; exact aA.out.size)
  have vA:=hJ (show aC≠aB by have:=aV.out.lt; rw [hg] at this; omega)
  clear hV hg
  have lS:=hJ (bt aA.out fA.out)
  have vB:=hJ (PIo.new aR.out fA.out)
  have vC:=hJ (BX.new aV.out fA.out)
  clear hHeld
  refine hK.out _ _ (aK.out _ lS.out) (fun hHeld=>?_)
  clear hK K
  try simp only [PT]
  exact wpAnyH_cast (by kernel_rfl) (cP s11 A11 n11 c11 aB aC v83 lS vB hI uZ vC bC (hJ vA.out.symm))
 have fB:∀ (aB:Nat) (aC:Nat) (v:World),Hid (Below x1.heap.size x1 v)→Hid (BX 25 v aB #[.bool false,.slice none 0 0])→Hid (x1.heap.size≤aB)→Hid (BX 25 v aC #[.bool false,.slice none 0 0])→Hid (x1.heap.size≤aC)→Hid (aB≠aC)→F 4 (Array.setIfInBounds (Array.setIfInBounds L0 4 true) 5 true) (Act.put (Act.put a0 (some 6) (.pointer (some ⟨aB,0,none⟩))) (some 7) (.pointer (some ⟨aC,0,none⟩))) v:=by
  intro aB aC v aA aP bB aV bC cI
  subst hF ha0 hL0
  simp only [PT] at cP ⊢
  have hHeld:=aK.out _ aA.out
  refine ryy [1] ?_
  refine .cons rfl (fun K hK=>?_) .nil
  go_simp
  go_at_call 36
  refine (den_any p q sa sb Aa Ab na ca nb cb v (PF.new bL.out aA.out) (Nat.le_trans (plim (PF.new bL.out aA.out).2 (dn_lim aH.out.2.2.2.1)) (by decide)) aH.out.1).mono ?_
  rintro e v84 ⟨s11,A11,n11,c11,rfl,hr11,hb⟩
  have hL:=hJ hb
  have vD:=hJ hr11
  clear hb hr11
  go_wp2_with fail
  have lT:=hJ (bt aA.out hL.out)
  have vE:=hJ (BX.new aP.out hL.out)
  have vF:=hJ (BX.new aV.out hL.out)
  clear hHeld
  refine hK.out _ _ (aK.out _ lT.out) (fun hHeld=>?_)
  clear hK K
  try simp only [PT]
  exact wpAnyH_cast (by kernel_rfl) (cP s11 A11 n11 c11 aB aC v84 lT vD vE bB vF bC (hJ cI.out))
 have lU:∀ (s11:Bool) (A11:Option Addr) (n11:Nat) (c11:Nat) (v:World),Hid (Below x1.heap.size x1 v)→Hid (PI v s11 A11 n11 c11 q)→F 5 (Array.setIfInBounds L0 1 true) (Act.put a0 (some 16) (.agg #[.bool s11,.slice A11 n11 c11])) v:=by
  intro s11 A11 n11 c11 v aA aR
  subst hF ha0 hL0
  simp only [PT] at lM eX eZ ⊢
  have hHeld:=aK.out _ aA.out
  refine ryy [3,4,5] ?_
  refine .cons rfl (fun K hK=>?_) ?_
  go_simp
  go_at_call 36
  refine (den_any r s sd se Ad Ae nd cd ne ce v (PF.new bM.out aA.out) (Nat.le_trans (plim (PF.new bM.out aA.out).2 (dn_lim aH.out.2.2.2.2.2)) (by decide)) aH.out.2.1).mono ?_
  rintro e v85 ⟨s12,A12,n12,c12,rfl,hr12,hb⟩
  have lV:=hJ hb
  have vG:=hJ hr12
  clear hb hr12
  go_wp2_with fail
  have lW:=hJ (bt aA.out lV.out)
  have vH:=hJ (PIo.new aR.out lV.out)
  clear hHeld
  refine hK.out _ _ (aK.out _ lW.out) (fun hHeld=>?_)
  clear hK K
  try simp only [PT]
  exact wpAnyH_cast (by kernel_rfl) (lM s11 A11 n11 c11 s12 A12 n12 c12 v85 lW vH vG)
  refine .cons rfl (fun K hK=>?_) ?_
  go_simp
  have hM:=hJ ((Below.refl v.heap.size v).alloc (Nat.le_refl _) (.cells #[.bool false,.slice none 0 0] 25))
  have hN:=hJ (BX.lit v 25 #[.bool false,.slice none 0 0])
  obtain ⟨v86,hV⟩:=nmz (World.alloc v (.cells #[.bool false,.slice none 0 0] 25))
  obtain ⟨aB,hg⟩:=nmz (v.heap.size)
  rw [hV] at hM hN ⊢
  rw [hg] at hN ⊢
  have vI:=hJ (show x1.heap.size≤aB by rw [←hg]; exact aA.out.size)
  clear hV hg
  have lX:=hJ (bt aA.out hM.out)
  have vJ:=hJ (PIo.new aR.out hM.out)
  clear hHeld
  refine hK.out _ _ (aK.out _ lX.out) (fun hHeld=>?_)
  clear hK K
  try simp only [PT]
  exact wpAnyH_cast (by kernel_rfl) (eX s11 A11 n11 c11 aB v86 lX vJ hN vI)
  refine .cons rfl (fun K hK=>?_) .nil
  go_simp
  have hO:=hJ ((Below.refl v.heap.size v).alloc (Nat.le_refl _) (.cells #[.bool false,.slice none 0 0] 25))
  have hP:=hJ (BX.lit v 25 #[.bool false,.slice none 0 0])
  obtain ⟨v87,hV⟩:=nmz (World.alloc v (.cells #[.bool false,.slice none 0 0] 25))
  obtain ⟨aC,hg⟩:=nmz (v.heap.size)
  rw [hV] at hO hP ⊢
  rw [hg] at hP ⊢
  have vK:=hJ (show x1.heap.size≤aC by rw [←hg]; exact aA.out.size)
  clear hV hg
  have lY:=hJ (bt aA.out hO.out)
  have vL:=hJ (PIo.new aR.out hO.out)
  clear hHeld
  refine hK.out _ _ (aK.out _ lY.out) (fun hHeld=>?_)
  clear hK K
  try simp only [PT]
  exact wpAnyH_cast (by kernel_rfl) (eZ s11 A11 n11 c11 aC v87 lY vL hP vK)
 have lZ:∀ (aB:Nat) (v:World),Hid (Below x1.heap.size x1 v)→Hid (BX 25 v aB #[.bool false,.slice none 0 0])→Hid (x1.heap.size≤aB)→F 5 (Array.setIfInBounds L0 4 true) (Act.put a0 (some 6) (.pointer (some ⟨aB,0,none⟩))) v:=by
  intro aB v aA aP bB
  subst hF ha0 hL0
  simp only [PT] at eX fB ⊢
  have hHeld:=aK.out _ aA.out
  refine ryy [1,5] ?_
  refine .cons rfl (fun K hK=>?_) ?_
  go_simp
  go_at_call 36
  refine (den_any p q sa sb Aa Ab na ca nb cb v (PF.new bL.out aA.out) (Nat.le_trans (plim (PF.new bL.out aA.out).2 (dn_lim aH.out.2.2.2.1)) (by decide)) aH.out.1).mono ?_
  rintro e v88 ⟨s11,A11,n11,c11,rfl,hr11,hb⟩
  have mA:=hJ hb
  have vM:=hJ hr11
  clear hb hr11
  go_wp2_with fail
  have mB:=hJ (bt aA.out mA.out)
  have vN:=hJ (BX.new aP.out mA.out)
  clear hHeld
  refine hK.out _ _ (aK.out _ mB.out) (fun hHeld=>?_)
  clear hK K
  try simp only [PT]
  exact wpAnyH_cast (by kernel_rfl) (eX s11 A11 n11 c11 aB v88 mB vM vN bB)
  refine .cons rfl (fun K hK=>?_) .nil
  go_simp
  have hQ:=hJ ((Below.refl v.heap.size v).alloc (Nat.le_refl _) (.cells #[.bool false,.slice none 0 0] 25))
  have hR:=hJ (BX.lit v 25 #[.bool false,.slice none 0 0])
  obtain ⟨v89,hV⟩:=nmz (World.alloc v (.cells #[.bool false,.slice none 0 0] 25))
  obtain ⟨aC,hg⟩:=nmz (v.heap.size)
  rw [hV] at hQ hR ⊢
  rw [hg] at hR ⊢
  have vO:=hJ (show x1.heap.size≤aC by rw [←hg]; exact aA.out.size)
  have vP:=hJ (show aB≠aC by have:=aP.out.lt; rw [hg] at this; omega)
  clear hV hg
  have mC:=hJ (bt aA.out hQ.out)
  have vQ:=hJ (BX.new aP.out hQ.out)
  clear hHeld
  refine hK.out _ _ (aK.out _ mC.out) (fun hHeld=>?_)
  clear hK K
  try simp only [PT]
  exact wpAnyH_cast (by kernel_rfl) (fB aB aC v89 mC vQ bB hR vO (hJ vP.out))
 have mD:∀ (aC:Nat) (v:World),Hid (Below x1.heap.size x1 v)→Hid (BX 25 v aC #[.bool false,.slice none 0 0])→Hid (x1.heap.size≤aC)→F 5 (Array.setIfInBounds L0 5 true) (Act.put a0 (some 7) (.pointer (some ⟨aC,0,none⟩))) v:=by
  intro aC v aA aV bC
  subst hF ha0 hL0
  simp only [PT] at eZ fB ⊢
  have hHeld:=aK.out _ aA.out
  refine ryy [1,4] ?_
  refine .cons rfl (fun K hK=>?_) ?_
  go_simp
  go_at_call 36
  refine (den_any p q sa sb Aa Ab na ca nb cb v (PF.new bL.out aA.out) (Nat.le_trans (plim (PF.new bL.out aA.out).2 (dn_lim aH.out.2.2.2.1)) (by decide)) aH.out.1).mono ?_
  rintro e v90 ⟨s11,A11,n11,c11,rfl,hr11,hb⟩
  have mE:=hJ hb
  have vR:=hJ hr11
  clear hb hr11
  go_wp2_with fail
  have mF:=hJ (bt aA.out mE.out)
  have vS:=hJ (BX.new aV.out mE.out)
  clear hHeld
  refine hK.out _ _ (aK.out _ mF.out) (fun hHeld=>?_)
  clear hK K
  try simp only [PT]
  exact wpAnyH_cast (by kernel_rfl) (eZ s11 A11 n11 c11 aC v90 mF vR vS bC)
  refine .cons rfl (fun K hK=>?_) .nil
  go_simp
  have hS:=hJ ((Below.refl v.heap.size v).alloc (Nat.le_refl _) (.cells #[.bool false,.slice none 0 0] 25))
  have hT:=hJ (BX.lit v 25 #[.bool false,.slice none 0 0])
  obtain ⟨v91,hV⟩:=nmz (World.alloc v (.cells #[.bool false,.slice none 0 0] 25))
  obtain ⟨aB,hg⟩:=nmz (v.heap.size)
  rw [hV] at hS hT ⊢
  rw [hg] at hT ⊢
  have vT:=hJ (show x1.heap.size≤aB by rw [←hg]; exact aA.out.size)
  have vU:=hJ (show aC≠aB by have:=aV.out.lt; rw [hg] at this; omega)
  clear hV hg
  have mG:=hJ (bt aA.out hS.out)
  have vV:=hJ (BX.new aV.out hS.out)
  clear hHeld
  refine hK.out _ _ (aK.out _ mG.out) (fun hHeld=>?_)
  clear hK K
  try simp only [PT]
  exact wpAnyH_cast (by kernel_rfl) (fB aB aC v91 mG hT vT vV bC (hJ vU.out.symm))
 subst hF ha0 hL0
 simp only [PT] at lU lZ mD
 refine ryy [1,4,5] ?_
 refine .cons rfl (fun K hK=>?_) ?_
 go_simp
 go_at_call 36
 refine (den_any p q sa sb Aa Ab na ca nb cb v2 (PF.new bL.out cA.out) (Nat.le_trans (plim (PF.new bL.out cA.out).2 (dn_lim aH.out.2.2.2.1)) (by decide)) aH.out.1).mono ?_
 rintro e v92 ⟨s11,A11,n11,c11,rfl,hr11,hb⟩
 have vW:=hJ hb
 have vX:=hJ hr11
 clear hb hr11
 go_wp2_with fail
 have mH:=hJ (bt cA.out vW.out)
 clear hHeld
 refine hK.out _ _ (aK.out _ mH.out) (fun hHeld=>?_)
 clear hK K
 try simp only [PT]
 exact wpAnyH_cast (by kernel_rfl) (lU s11 A11 n11 c11 v92 mH vX)
 refine .cons rfl (fun K hK=>?_) ?_
 go_simp
 have mI:=hJ ((Below.refl v2.heap.size v2).alloc (Nat.le_refl _) (.cells #[.bool false,.slice none 0 0] 25))
 have hU:=hJ (BX.lit v2 25 #[.bool false,.slice none 0 0])
 obtain ⟨v93,hV⟩:=nmz (World.alloc v2 (.cells #[.bool false,.slice none 0 0] 25))
 obtain ⟨aB,hg⟩:=nmz (v2.heap.size)
 rw [hV] at mI hU ⊢
 rw [hg] at hU ⊢
 have vY:=hJ (show x1.heap.size≤aB by rw [←hg]; exact cA.out.size)
 clear hV hg
 have mJ:=hJ (bt cA.out mI.out)
 clear hHeld
 refine hK.out _ _ (aK.out _ mJ.out) (fun hHeld=>?_)
 clear hK K
 try simp only [PT]
 exact wpAnyH_cast (by kernel_rfl) (lZ aB v93 mJ hU vY)
 refine .cons rfl (fun K hK=>?_) .nil
 go_simp
 have mK:=hJ ((Below.refl v2.heap.size v2).alloc (Nat.le_refl _) (.cells #[.bool false,.slice none 0 0] 25))
 have hW:=hJ (BX.lit v2 25 #[.bool false,.slice none 0 0])
 obtain ⟨v94,hV⟩:=nmz (World.alloc v2 (.cells #[.bool false,.slice none 0 0] 25))
 obtain ⟨aC,hg⟩:=nmz (v2.heap.size)
 rw [hV] at mK hW ⊢
 rw [hg] at hW ⊢
 have vZ:=hJ (show x1.heap.size≤aC by rw [←hg]; exact cA.out.size)
 clear hV hg
 have mL:=hJ (bt cA.out mK.out)
 clear hHeld
 refine hK.out _ _ (aK.out _ mL.out) (fun hHeld=>?_)
 clear hK K
 try simp only [PT]
 exact wpAnyH_cast (by kernel_rfl) (mD aC v94 mL hW vZ)
end Go.Proofs.YteggneaefggbmaaGreat
namespace Go.Proofs.YteggneaefggbmaaGreat
set_option maxRecDepth 100000
set_option maxHeartbeats 12800000
open Go.RowKit
attribute [local go_sem ↓] Go.wp_at_zero Go.wp_at_succ
theorem i64_lim {x:Int} (h:(Lit.int .i64 x).wf=true):x.natAbs < lim:=by
 obtain ⟨h1,h2⟩ : -9223372036854775808≤x∧x≤9223372036854775807:=by simpa [Lit.wf,IntKind.min,IntKind.max,IntKind.signed,IntKind.bits] using h
 exact B2.lim (k:=64) (by have:B2 64=18446744073709551616:=rfl; omega) (by decide)
theorem mkQ_pos {p q:Int}:0 < mkQ p q:=by
 unfold mkQ
 split
 ·decide
 ·rename_i h
  have h1:=Nat.gcd_pos_of_pos_right p.natAbs (show 0 < q.natAbs by omega)
  have hd:=Nat.gcd_dvd_right p.natAbs q.natAbs
  unfold mkD
  obtain ⟨k,hk⟩:=hd
  generalize Nat.gcd p.natAbs q.natAbs=G at *
  have hk0:0 < k:=by
   rcases Nat.eq_zero_or_pos k with e | e
   ·subst e; omega
   exact e
  split
  ·have e:q = -(G:Int)*(k:Int):=by
    have h3:q = -(q.natAbs:Int):=by omega
    rw [h3,hk,Int.natCast_mul,Int.neg_mul]
   rw [e,Int.mul_ediv_cancel_left _ (by omega)]
   omega
  ·have e:q=(G:Int)*(k:Int):=by
    have h3:q=(q.natAbs:Int):=by omega
    rw [h3,hk,Int.natCast_mul]
   rw [e,Int.mul_ediv_cancel_left _ (by omega)]
   omega
theorem one_lim:(1:Int).natAbs < lim:=by
 rw [lim_two]
 exact Nat.one_lt_two_pow (by decide)
theorem mkPQ_lim {p q:Int} (hp:p.natAbs < lim) (hq:q.natAbs < lim):(mkP p q).natAbs < lim∧(mkQ p q).natAbs < lim:=by
 by_cases h:q=0
 ·subst h
  exact ⟨by rw [(mk_zero p).1]; have:=one_lim; simp at this ⊢; omega,by rw [(mk_zero p).2.1]; exact one_lim⟩
 ·exact mk_lim h hp hq
theorem fof_any (p q:Int) (w:World) (hp:(Lit.int .i64 p).wf=true) (hq:(Lit.int .i64 q).wf=true) :
  Calls Tryz.prog 80 #[.int .i64 p,.int .i64 q] w (RetFE (mkP p q) (mkQ p q) (mkC q) w):=by
 have HP:=hJ hp
 have HQ:=hJ hq
 clear hp hq
 obtain ⟨W,hW⟩:∃ W,w.alloc (.cells #[.bool false,.slice none 0 0,.bool false,.slice none 0 0] 27)=W:=⟨_,rfl⟩
 have HK:=hJ (show Below w.heap.size w W by rw [←hW]; exact (Below.refl _ w).alloc (Nat.le_refl _) _)
 have HZ:=hJ (show P4 27 W w.heap.size (.bool false) (.slice none 0 0) (.bool false) (.slice none 0 0) by rw [←hW]; exact P4.lit _ _ _ _ _ _)
 go_enter Tryz.func80,Tryz.ntmps80
 go_wp2_with fail
 refine (from_any p W HP.out).mono ?_
 rintro e w1 ⟨s1,A1,n1,c1,rfl,hr1,hb1⟩
 have aB:=hJ hr1
 have aC:=hJ (bt HK.out hb1)
 have aD:=hJ (HZ.out.new hb1)
 clear hr1 hb1
 go_wp2_with fail
 refine (from_any q w1 HQ.out).mono ?_
 rintro e w2 ⟨s2,A2,n2,c2,rfl,hr2,hb2⟩
 have aE:=hJ hr2
 have aF:=hJ (PIo.new aB.out hb2)
 have aG:=hJ (bt aC.out hb2)
 have aH:=hJ (aD.out.new hb2)
 clear hr2 hb2
 go_wp2_with fail
 refine (fmake_any p q s1 s2 A1 A2 n1 c1 n2 c2 w2 aF.out aE.out (i64_lim HP.out) (i64_lim HQ.out)).mono ?_
 rintro e w3 ⟨s3,A3,n3,c3,s4,A4,n4,c4,rfl,hr3,hb3⟩
 have aI:=hJ hr3
 have aJ:=hJ (bt aG.out hb3)
 have aA:=hJ (aH.out.new hb3)
 clear hr3 hb3
 obtain ⟨z0,z1,z2,z3⟩:=aA.out.cells
 have f0:=aA.out.frozen 0
 have f1:=aA.out.frozen 1
 have f2:=aA.out.frozen 2
 have f3:=aA.out.frozen 3
 go_wp2
 exact bodyPost_ret (results_cell1 rfl _ _ _ _ _ _ _ rfl (aA.out.all (.bool s3) (.slice A3 n3 c3) (.bool s4) (.slice A4 n4 c4)) Tryz.underlying27 rfl F_size) rfl (RetFE.stored aI.out aA.out aJ.out (Nat.le_refl _) _ _ _ _)
theorem fsub_any (p q r s:Int) (sa sb sd se:Bool) (Aa Ab Ad Ae:Option Addr) (na ca nb cb nd cd ne ce:Nat) (w:World) (hx:PF w sa Aa na ca sb Ab nb cb p q) (hy:PF w sd Ad nd cd se Ae ne ce r s) (hq:0 < q) (hs:0 < s) (hlp:p.natAbs < lim) (hlq:q.natAbs < lim) (hlr:r.natAbs < lim) (hls:s.natAbs < lim) :
  Calls Tryz.prog 99 #[.agg #[.bool sa,.slice Aa na ca,.bool sb,.slice Ab nb cb],.agg #[.bool sd,.slice Ad nd cd,.bool se,.slice Ae ne ce]] w (RetFE (adP p q (-r) s) (adQ p q (-r) s) (adC p q (-r) s) w):=by
 have aE:=hJ (And.intro hq (And.intro hs (And.intro hlp (And.intro hlq (And.intro hlr hls)))))
 obtain ⟨W,hW⟩:∃ W,((w.alloc (.cells #[.bool sa,.slice Aa na ca,.bool sb,.slice Ab nb cb] 27)).alloc (.cells #[.bool sd,.slice Ad nd cd,.bool se,.slice Ae ne ce] 27)).alloc (.cells #[.bool false,.slice none 0 0,.bool false,.slice none 0 0] 27)=W:=⟨_,rfl⟩
 have HK:=hJ (show Below w.heap.size w W by rw [←hW]; exact W444_k _ _ _ _ _ _ _ _ _ _ _ _ _ _)
 have aR:=hJ (show P4 27 W w.heap.size (.bool sa) (.slice Aa na ca) (.bool sb) (.slice Ab nb cb) by rw [←hW]; exact W444_a _ _ _ _ _ _ _ _ _ _ _ _ _ _)
 have aS:=hJ (show P4 27 W (w.heap.size+1) (.bool sd) (.slice Ad nd cd) (.bool se) (.slice Ae ne ce) by rw [←hW]; exact W444_b _ _ _ _ _ _ _ _ _ _ _ _ _ _)
 have aT:=hJ (show P4 27 W (w.heap.size+1+1) (.bool false) (.slice none 0 0) (.bool false) (.slice none 0 0) by rw [←hW]; exact W444_z _ _ _ _ _ _ _ _ _ _ _ _ _ _)
 have aX:=hJ (hx.new HK.out)
 have aY:=hJ (hy.new HK.out)
 have hna:na≤512:=plim hx.1 hlp
 have hnb:nb≤512:=plim hx.2 (dn_lim hlq)
 have hnd:nd≤512:=plim hy.1 hlr
 have hne:ne≤512:=plim hy.2 (dn_lim hls)
 obtain ⟨h,hh⟩:∃ h,w.heap.size=h:=⟨_,rfl⟩
 have HH:=hJ hh
 rw [hh] at aR aS aT
 clear hx hy hq hs hlp hlq hlr hls
 go_enter Tryz.func99,Tryz.ntmps99
 go_upto_region 1 with fail
 clear hW hh
 obtain ⟨P,hP⟩:∃ x,adP p q (-r) s=x:=⟨_,rfl⟩
 obtain ⟨Q,hQ⟩:∃ x,adQ p q (-r) s=x:=⟨_,rfl⟩
 obtain ⟨C,hC⟩:∃ x,adC p q (-r) s=x:=⟨_,rfl⟩
 have aF:=hJ (And.intro hP (And.intro hQ hC))
 have aZ:=hJ (show (-r).natAbs < lim by rw [Int.natAbs_neg]; exact aE.out.2.2.2.2.1)
 clear hP hQ hC
 obtain ⟨v0,hv0⟩:=nmz (World.drew W)
 have aC:=hJ (show Below W.heap.size W v0 by rw [←hv0]; exact (Below.refl _ _).drew)
 have aO:=hJ (bt HK.out aC.out)
 have a_0:=hJ ((aX.out).new aC.out)
 have b_0:=hJ ((aY.out).new aC.out)
 have aG:=hJ (aR.out.new aC.out)
 have aH:=hJ (aS.out.new aC.out)
 have aU:=hJ (aT.out.new aC.out)
 refine wp_region_held_drew (S:=(fun w':World=>w'.cell? ⟨h,0,none⟩=some (.bool sa)∧w'.cell? ⟨h,1,none⟩=some (.slice Aa na ca)∧w'.cell? ⟨h,2,none⟩=some (.bool sb)∧w'.cell? ⟨h,3,none⟩=some (.slice Ab nb cb)∧w'.cell? ⟨(h+1),0,none⟩=some (.bool sd)∧w'.cell? ⟨(h+1),1,none⟩=some (.slice Ad nd cd)∧w'.cell? ⟨(h+1),2,none⟩=some (.bool se)∧w'.cell? ⟨(h+1),3,none⟩=some (.slice Ae ne ce)∧Below w.heap.size w w')) (by kernel_rfl) ?_ (fun hHeld=>?_)
 ·rw [hv0]
  exact ⟨aG.out.cells.1,aG.out.cells.2.1,aG.out.cells.2.2.1,aG.out.cells.2.2.2,aH.out.cells.1,aH.out.cells.2.1,aH.out.cells.2.2.1,aH.out.cells.2.2.2,aO.out⟩
 rw [hv0] at hHeld ⊢
 clear hv0 aC
 refine tq 0 ?_
 refine tq 1 ?_
 refine tq 2 ?_
 refine tq 4 ?_
 refine tq 5 ?_
 try simp only [PT]
 refine ryy [3] ?_
 refine .cons rfl (fun K hK=>?_) .nil
 go_simp
 go_at_call 115
 refine (pneg_any r sd Ad nd cd v0 (b_0.out.1) (by omega)).mono ?_
 rintro e v1 ⟨t1,T1,m1,d1,rfl,hr,hk⟩
 have N_1:=hJ (hr)
 have aD:=hJ hk
 go_wp2_with fail
 have aP:=hJ (bt aO.out aD.out)
 have a_1:=hJ ((a_0.out).new aD.out)
 have b_1:=hJ ((b_0.out).new aD.out)
 have aI:=hJ (aG.out.new aD.out)
 have aJ:=hJ (aH.out.new aD.out)
 have aV:=hJ (aU.out.new aD.out)
 clear hHeld
 refine hK.out _ _ (⟨aI.out.cells.1,aI.out.cells.2.1,aI.out.cells.2.2.1,aI.out.cells.2.2.2,aJ.out.cells.1,aJ.out.cells.2.1,aJ.out.cells.2.2.1,aJ.out.cells.2.2.2,aP.out⟩) (fun hHeld=>?_)
 clear hK K hk aD hr aO a_0 b_0 aG aH aU
 refine tq 6 ?_
 try simp only [PT]
 refine ryy [7] ?_
 refine .cons rfl (fun K hK=>?_) .nil
 go_simp
 go_at_call 45
 refine (fadd_any p q (-r) s sa sb t1 se Aa Ab T1 Ae na ca nb cb m1 d1 ne ce v1 (a_1.out) ⟨N_1.out,b_1.out.2⟩ aE.out.1 aE.out.2.1 aE.out.2.2.1 aE.out.2.2.2.1 aZ.out aE.out.2.2.2.2.2).mono ?_
 rw [aF.out.1,aF.out.2.1,aF.out.2.2]
 rintro e v2 ⟨t3,T3,m3,d3,t4,T4,m4,d4,rfl,hr,hk⟩
 have R_2:=hJ (hr)
 have aB:=hJ hk
 go_wp2_with fail
 have aQ:=hJ (bt aP.out aB.out)
 have a_2:=hJ ((a_1.out).new aB.out)
 have b_2:=hJ ((b_1.out).new aB.out)
 have N_2:=hJ (PIo.new N_1.out aB.out)
 have aK:=hJ (aI.out.new aB.out)
 have aL:=hJ (aJ.out.new aB.out)
 have aA:=hJ (aV.out.new aB.out)
 clear hHeld
 refine hK.out _ _ (⟨aK.out.cells.1,aK.out.cells.2.1,aK.out.cells.2.2.1,aK.out.cells.2.2.2,aL.out.cells.1,aL.out.cells.2.1,aL.out.cells.2.2.1,aL.out.cells.2.2.2,aQ.out⟩) (fun hHeld=>?_)
 clear hK K hk aB hr aP a_1 b_1 N_1 aI aJ aV
 refine tq 8 ?_
 refine tq 9 ?_
 try simp only [PT]
 refine ryy [10] ?_
 refine .cons rfl (fun K hK=>?_) .nil
 obtain ⟨z0,z1,z2,z3⟩:=aA.out.cells
 have y0:=aA.out.frozen 0
 have y1:=aA.out.frozen 1
 have y2:=aA.out.frozen 2
 have y3:=aA.out.frozen 3
 have z9:=aA.out.lt
 go_simp
 obtain ⟨v3,hV⟩:=nmz (World.setCell (World.setCell (World.setCell (World.setCell v2 ⟨(h+1+1),0,none⟩ (.bool t3)) ⟨(h+1+1),1,none⟩ (.slice T3 m3 d3)) ⟨(h+1+1),2,none⟩ (.bool t4)) ⟨(h+1+1),3,none⟩ (.slice T4 m4 d4))
 rw [hV]
 have aW:=hJ (show Below w.heap.size w v3 by rw [←hV]; exact below_box4 aQ.out (by rw [HH.out]; omega) _ _ _ _)
 have a_3:=hJ (show PF v3 sa Aa na ca sb Ab nb cb p q by rw [←hV]; exact PF.box4 (a_2.out) (aA.out) (.bool t3) (.slice T3 m3 d3) (.bool t4) (.slice T4 m4 d4))
 have b_3:=hJ (show PF v3 sd Ad nd cd se Ae ne ce r s by rw [←hV]; exact PF.box4 (b_2.out) (aA.out) (.bool t3) (.slice T3 m3 d3) (.bool t4) (.slice T4 m4 d4))
 have N_3:=hJ (show PI v3 t1 T1 m1 d1 (-r) by rw [←hV]; exact PIo.box4 (N_2.out) (aA.out) rfl rfl rfl rfl (.bool t3) (.slice T3 m3 d3) (.bool t4) (.slice T4 m4 d4))
 have R_3:=hJ (show PF v3 t3 T3 m3 d3 t4 T4 m4 d4 P Q by rw [←hV]; exact PF.box4 (R_2.out) (aA.out) (.bool t3) (.slice T3 m3 d3) (.bool t4) (.slice T4 m4 d4))
 have aM:=hJ (show P4 27 v3 h (.bool sa) (.slice Aa na ca) (.bool sb) (.slice Ab nb cb) by rw [←hV]; exact aK.out.far4 (show h≠(h+1+1) from (by omega)) (.bool t3) (.slice T3 m3 d3) (.bool t4) (.slice T4 m4 d4))
 have aN:=hJ (show P4 27 v3 (h+1) (.bool sd) (.slice Ad nd cd) (.bool se) (.slice Ae ne ce) by rw [←hV]; exact aL.out.far4 (show (h+1)≠(h+1+1) from (by omega)) (.bool t3) (.slice T3 m3 d3) (.bool t4) (.slice T4 m4 d4))
 have bA:=hJ (show P4 27 v3 (h+1+1) (.bool t3) (.slice T3 m3 d3) (.bool t4) (.slice T4 m4 d4) by rw [←hV]; exact aA.out.all (.bool t3) (.slice T3 m3 d3) (.bool t4) (.slice T4 m4 d4))
 clear hHeld
 refine hK.out _ _ (⟨aM.out.cells.1,aM.out.cells.2.1,aM.out.cells.2.2.1,aM.out.cells.2.2.2,aN.out.cells.1,aN.out.cells.2.1,aN.out.cells.2.2.1,aN.out.cells.2.2.2,aW.out⟩) (fun hHeld=>?_)
 clear hK K hV z9 z0 z1 z2 z3 y0 y1 y2 y3 aQ a_2 b_2 N_2 R_2 aK aL aA
 refine tq 11 ?_
 try simp only [PT]
 refine wpAnyH_done (by kernel_rfl) ?_ _
 clear hHeld
 go_wp2
 exact bodyPost_ret (results_cell1 rfl _ _ _ _ _ _ _ rfl (bA.out) Tryz.underlying27 rfl F_size) rfl (by rw [aF.out.1,aF.out.2.1,aF.out.2.2]; exact ⟨t3,T3,m3,d3,t4,T4,m4,d4,rfl,R_3.out,aW.out⟩)
def dvP (p q r s:Int):Int:=if r=0 then 0 else muP p q (mkP s r) (mkQ s r)
def dvQ (p q r s:Int):Int:=if r=0 then 1 else muQ p q (mkP s r) (mkQ s r)
def dvC (p q r s:Int):Int:=if r=0 then 1 else muC p q (mkP s r) (mkQ s r)
theorem fdiv_any (p q r s:Int) (sa sb sd se:Bool) (Aa Ab Ad Ae:Option Addr) (na ca nb cb nd cd ne ce:Nat) (w:World) (hx:PF w sa Aa na ca sb Ab nb cb p q) (hy:PF w sd Ad nd cd se Ae ne ce r s) (hq:0 < q) (hs:0 < s) (hlp:p.natAbs < lim) (hlq:q.natAbs < lim) (hlr:r.natAbs < lim) (hls:s.natAbs < lim) :
  Calls Tryz.prog 123 #[.agg #[.bool sa,.slice Aa na ca,.bool sb,.slice Ab nb cb],.agg #[.bool sd,.slice Ad nd cd,.bool se,.slice Ae ne ce]] w (RetFE (dvP p q r s) (dvQ p q r s) (dvC p q r s) w):=by
 have aB:=hJ (And.intro hq (And.intro hs (And.intro hlp (And.intro hlq (And.intro hlr hls)))))
 obtain ⟨W,hW⟩:∃ W,((w.alloc (.cells #[.bool sa,.slice Aa na ca,.bool sb,.slice Ab nb cb] 27)).alloc (.cells #[.bool sd,.slice Ad nd cd,.bool se,.slice Ae ne ce] 27)).alloc (.cells #[.bool false,.slice none 0 0,.bool false,.slice none 0 0] 27)=W:=⟨_,rfl⟩
 have HK:=hJ (show Below w.heap.size w W by rw [←hW]; exact W444_k _ _ _ _ _ _ _ _ _ _ _ _ _ _)
 have aW:=hJ (show P4 27 W w.heap.size (.bool sa) (.slice Aa na ca) (.bool sb) (.slice Ab nb cb) by rw [←hW]; exact W444_a _ _ _ _ _ _ _ _ _ _ _ _ _ _)
 have aH:=hJ (show P4 27 W (w.heap.size+1) (.bool sd) (.slice Ad nd cd) (.bool se) (.slice Ae ne ce) by rw [←hW]; exact W444_b _ _ _ _ _ _ _ _ _ _ _ _ _ _)
 have aX:=hJ (show P4 27 W (w.heap.size+1+1) (.bool false) (.slice none 0 0) (.bool false) (.slice none 0 0) by rw [←hW]; exact W444_z _ _ _ _ _ _ _ _ _ _ _ _ _ _)
 have bG:=hJ (hx.new HK.out)
 have bH:=hJ (hy.new HK.out)
 have bP:=hJ (show PF W false none 0 0 false none 0 0 0 1 from ⟨PI.zero W,PI.zero W⟩)
 have hna:na≤512:=plim hx.1 hlp
 have hnb:nb≤512:=plim hx.2 (dn_lim hlq)
 have hnd:nd≤512:=plim hy.1 hlr
 have hne:ne≤512:=plim hy.2 (dn_lim hls)
 obtain ⟨h,hh⟩:∃ h,w.heap.size=h:=⟨_,rfl⟩
 have HH:=hJ hh
 rw [hh] at aW aH aX
 clear hx hy hq hs hlp hlq hlr hls
 go_enter Tryz.func123,Tryz.ntmps123
 have HS:Hid (∀ w',Below W.heap.size W w'→(fun w':World=>w'.cell? ⟨(h+1),0,none⟩=some (.bool sd)∧w'.cell? ⟨(h+1),1,none⟩=some (.slice Ad nd cd)∧w'.cell? ⟨(h+1),2,none⟩=some (.bool se)∧w'.cell? ⟨(h+1),3,none⟩=some (.slice Ae ne ce)∧Below W.heap.size W w') w'):=hJ (fun w' hb=>⟨(aH.out.new hb).cells.1,(aH.out.new hb).cells.2.1,(aH.out.new hb).cells.2.2.1,(aH.out.new hb).cells.2.2.2,hb⟩)
 have bJ:=hJ (Below.refl W.heap.size W)
 obtain ⟨P,hP⟩:∃ x,mkP s r=x:=⟨_,rfl⟩
 obtain ⟨Q,hQ⟩:∃ x,mkQ s r=x:=⟨_,rfl⟩
 obtain ⟨C,hC⟩:∃ x,mkC r=x:=⟨_,rfl⟩
 have aA:=hJ (And.intro hP (And.intro hQ hC))
 clear hP hQ hC
 go_upto_region 1 with fail
 clear hW hh
 go_cut [6,7] (fun tp tq wx=>∃ (G:Nat) (s1:Bool) (A1:Option Addr) (n1 c1:Nat) (s2:Bool) (A2:Option Addr) (n2 c2:Nat),tp=.pointer (some ⟨G,0,none⟩)∧tq=.int .i64 C∧P4 27 wx G (.bool s1) (.slice A1 n1 c1) (.bool s2) (.slice A2 n2 c2)∧PF wx s1 A1 n1 c1 s2 A2 n2 c2 P Q∧Below W.heap.size W wx)
 case first =>
  obtain ⟨v0,hv0⟩:=nmz (World.drew W)
  have aY:=hJ (show Below W.heap.size W v0 by rw [←hv0]; exact (Below.refl _ _).drew)
  have aI:=hJ (bt bJ.out aY.out)
  have b_0:=hJ ((bH.out).new aY.out)
  refine wp_region_held_drew (S:=(fun w':World=>w'.cell? ⟨(h+1),0,none⟩=some (.bool sd)∧w'.cell? ⟨(h+1),1,none⟩=some (.slice Ad nd cd)∧w'.cell? ⟨(h+1),2,none⟩=some (.bool se)∧w'.cell? ⟨(h+1),3,none⟩=some (.slice Ae ne ce)∧Below W.heap.size W w')) (by kernel_rfl) ?_ (fun hHeld=>?_)
  ·rw [hv0]
   exact HS.out _ aI.out
  rw [hv0] at hHeld ⊢
  clear hv0 aY
  refine tq 0 ?_
  refine tq 2 ?_
  refine tq 3 ?_
  try simp only [PT]
  refine ryy [1,8] ?_
  refine .cons rfl (fun K hK=>?_) ?_
  go_simp
  go_at_call 36
  refine (den_any r s sd se Ad Ae nd cd ne ce v0 (b_0.out) (by omega) aB.out.2.1).mono ?_
  rintro e v1 ⟨t1,T1,m1,d1,rfl,hr,hk⟩
  have N_1:=hJ (hr)
  have aZ:=hJ hk
  go_wp2_with fail
  have aJ:=hJ (bt aI.out aZ.out)
  have b_1:=hJ ((b_0.out).new aZ.out)
  clear hHeld
  refine hK.out _ _ (HS.out _ aJ.out) (fun hHeld=>?_)
  clear hK K hk aZ hr aI b_0
  try simp only [PT]
  refine ryy [4,8] ?_
  refine .cons rfl (fun K hK=>?_) ?_
  go_simp
  go_at_call 43
  refine (fmake_any s r t1 sd T1 Ad m1 d1 nd cd v1 (N_1.out) (b_1.out.1) aB.out.2.2.2.2.2 aB.out.2.2.2.2.1).mono ?_
  rw [aA.out.1,aA.out.2.1,aA.out.2.2]
  rintro e v2 ⟨t3,T3,m3,d3,t4,T4,m4,d4,rfl,hr,hk⟩
  have R_2:=hJ (hr)
  have aQ:=hJ hk
  go_wp2_with fail
  have aR:=hJ (bt aJ.out aQ.out)
  have b_2:=hJ ((b_1.out).new aQ.out)
  have N_2:=hJ (PIo.new N_1.out aQ.out)
  clear hHeld
  refine hK.out _ _ (HS.out _ aR.out) (fun hHeld=>?_)
  clear hK K hk aQ hr aJ b_1 N_1
  refine tq 5 ?_
  refine tq 6 ?_
  refine tq 7 ?_
  try simp only [PT]
  refine ryy [8] ?_
  refine .cons rfl (fun K hK=>?_) .nil
  go_simp
  have aK:=hJ ((Below.refl v2.heap.size v2).alloc (Nat.le_refl _) (.cells #[.bool false,.slice none 0 0,.bool false,.slice none 0 0] 27))
  have aC:=hJ (P4.lit v2 27 (.bool false) (.slice none 0 0) (.bool false) (.slice none 0 0))
  obtain ⟨v3,hV⟩:=nmz (World.alloc v2 (.cells #[.bool false,.slice none 0 0,.bool false,.slice none 0 0] 27))
  obtain ⟨gx,hg⟩:=nmz (v2.heap.size)
  rw [hV] at aK aC  ⊢
  rw [hg] at aC  ⊢
  have aL:=hJ (show W.heap.size≤gx by rw [←hg]; exact aR.out.size)
  have bA:=hJ (bt aR.out aK.out)
  have b_3:=hJ ((b_2.out).new aK.out)
  have N_3:=hJ (PIo.new N_2.out aK.out)
  have R_3:=hJ (PF.new R_2.out aK.out)
  clear hHeld
  refine hK.out _ _ (HS.out _ bA.out) (fun hHeld=>?_)
  clear hK K hV hg aK aR b_2 N_2 R_2
  try simp only [PT]
  refine ryy [9] ?_
  refine .cons rfl (fun K hK=>?_) .nil
  obtain ⟨z0,z1,z2,z3⟩:=aC.out.cells
  have y0:=aC.out.frozen 0
  have y1:=aC.out.frozen 1
  have y2:=aC.out.frozen 2
  have y3:=aC.out.frozen 3
  have z9:=aC.out.lt
  go_simp
  obtain ⟨v4,hV⟩:=nmz (World.setCell (World.setCell (World.setCell (World.setCell v3 ⟨gx,0,none⟩ (.bool t3)) ⟨gx,1,none⟩ (.slice T3 m3 d3)) ⟨gx,2,none⟩ (.bool t4)) ⟨gx,3,none⟩ (.slice T4 m4 d4))
  rw [hV]
  have bK:=hJ (show Below W.heap.size W v4 by rw [←hV]; exact below_box4 bA.out (aL.out) _ _ _ _)
  have b_4:=hJ (show PF v4 sd Ad nd cd se Ae ne ce r s by rw [←hV]; exact PF.box4 (b_3.out) (aC.out) (.bool t3) (.slice T3 m3 d3) (.bool t4) (.slice T4 m4 d4))
  have N_4:=hJ (show PI v4 t1 T1 m1 d1 s by rw [←hV]; exact PIo.box4 (N_3.out) (aC.out) rfl rfl rfl rfl (.bool t3) (.slice T3 m3 d3) (.bool t4) (.slice T4 m4 d4))
  have R_4:=hJ (show PF v4 t3 T3 m3 d3 t4 T4 m4 d4 P Q by rw [←hV]; exact PF.box4 (R_3.out) (aC.out) (.bool t3) (.slice T3 m3 d3) (.bool t4) (.slice T4 m4 d4))
  have bQ:=hJ (show P4 27 v4 gx (.bool t3) (.slice T3 m3 d3) (.bool t4) (.slice T4 m4 d4) by rw [←hV]; exact aC.out.all (.bool t3) (.slice T3 m3 d3) (.bool t4) (.slice T4 m4 d4))
  clear hHeld
  refine hK.out _ _ (HS.out _ bK.out) (fun hHeld=>?_)
  clear hK K hV z9 z0 z1 z2 z3 y0 y1 y2 y3 bA b_3 N_3 R_3 aC
  refine tq 10 ?_
  try simp only [PT]
  refine wpAnyH_done (by kernel_rfl) ?_ _
  clear hHeld
  go_wp2_with fail
  go_meet
  exact ⟨gx,t3,T3,m3,d3,t4,T4,m4,d4,rfl,rfl,bQ.out,R_4.out,bK.out⟩
  refine .cons rfl (fun K hK=>?_) .nil
  go_simp
  have aM:=hJ ((Below.refl v1.heap.size v1).alloc (Nat.le_refl _) (.cells #[.bool false,.slice none 0 0,.bool false,.slice none 0 0] 27))
  have aS:=hJ (P4.lit v1 27 (.bool false) (.slice none 0 0) (.bool false) (.slice none 0 0))
  obtain ⟨v5,hV⟩:=nmz (World.alloc v1 (.cells #[.bool false,.slice none 0 0,.bool false,.slice none 0 0] 27))
  obtain ⟨gx,hg⟩:=nmz (v1.heap.size)
  rw [hV] at aM aS  ⊢
  rw [hg] at aS  ⊢
  have aL:=hJ (show W.heap.size≤gx by rw [←hg]; exact aJ.out.size)
  have bB:=hJ (bt aJ.out aM.out)
  have b_5:=hJ ((b_1.out).new aM.out)
  have N_5:=hJ (PIo.new N_1.out aM.out)
  clear hHeld
  refine hK.out _ _ (HS.out _ bB.out) (fun hHeld=>?_)
  clear hK K hV hg aM aJ b_1 N_1
  try simp only [PT]
  refine ryy [4] ?_
  refine .cons rfl (fun K hK=>?_) .nil
  go_simp
  go_at_call 43
  refine (fmake_any s r t1 sd T1 Ad m1 d1 nd cd v5 (N_5.out) (b_5.out.1) aB.out.2.2.2.2.2 aB.out.2.2.2.2.1).mono ?_
  rw [aA.out.1,aA.out.2.1,aA.out.2.2]
  rintro e v6 ⟨t3,T3,m3,d3,t4,T4,m4,d4,rfl,hr,hk⟩
  have R_6:=hJ (hr)
  have aN:=hJ hk
  go_wp2_with fail
  have bC:=hJ (bt bB.out aN.out)
  have b_6:=hJ ((b_5.out).new aN.out)
  have N_6:=hJ (PIo.new N_5.out aN.out)
  have aD:=hJ (aS.out.new aN.out)
  clear hHeld
  refine hK.out _ _ (HS.out _ bC.out) (fun hHeld=>?_)
  clear hK K hk aN hr bB b_5 N_5 aS
  refine tq 5 ?_
  refine tq 6 ?_
  refine tq 7 ?_
  try simp only [PT]
  refine ryy [9] ?_
  refine .cons rfl (fun K hK=>?_) .nil
  obtain ⟨z0,z1,z2,z3⟩:=aD.out.cells
  have y0:=aD.out.frozen 0
  have y1:=aD.out.frozen 1
  have y2:=aD.out.frozen 2
  have y3:=aD.out.frozen 3
  have z9:=aD.out.lt
  go_simp
  obtain ⟨v7,hV⟩:=nmz (World.setCell (World.setCell (World.setCell (World.setCell v6 ⟨gx,0,none⟩ (.bool t3)) ⟨gx,1,none⟩ (.slice T3 m3 d3)) ⟨gx,2,none⟩ (.bool t4)) ⟨gx,3,none⟩ (.slice T4 m4 d4))
  rw [hV]
  have bL:=hJ (show Below W.heap.size W v7 by rw [←hV]; exact below_box4 bC.out (aL.out) _ _ _ _)
  have b_7:=hJ (show PF v7 sd Ad nd cd se Ae ne ce r s by rw [←hV]; exact PF.box4 (b_6.out) (aD.out) (.bool t3) (.slice T3 m3 d3) (.bool t4) (.slice T4 m4 d4))
  have N_7:=hJ (show PI v7 t1 T1 m1 d1 s by rw [←hV]; exact PIo.box4 (N_6.out) (aD.out) rfl rfl rfl rfl (.bool t3) (.slice T3 m3 d3) (.bool t4) (.slice T4 m4 d4))
  have R_7:=hJ (show PF v7 t3 T3 m3 d3 t4 T4 m4 d4 P Q by rw [←hV]; exact PF.box4 (R_6.out) (aD.out) (.bool t3) (.slice T3 m3 d3) (.bool t4) (.slice T4 m4 d4))
  have bR:=hJ (show P4 27 v7 gx (.bool t3) (.slice T3 m3 d3) (.bool t4) (.slice T4 m4 d4) by rw [←hV]; exact aD.out.all (.bool t3) (.slice T3 m3 d3) (.bool t4) (.slice T4 m4 d4))
  clear hHeld
  refine hK.out _ _ (HS.out _ bL.out) (fun hHeld=>?_)
  clear hK K hV z9 z0 z1 z2 z3 y0 y1 y2 y3 bC b_6 N_6 R_6 aD
  refine tq 10 ?_
  try simp only [PT]
  refine wpAnyH_done (by kernel_rfl) ?_ _
  clear hHeld
  go_wp2_with fail
  go_meet
  exact ⟨gx,t3,T3,m3,d3,t4,T4,m4,d4,rfl,rfl,bR.out,R_7.out,bL.out⟩
  refine .cons rfl (fun K hK=>?_) .nil
  go_simp
  have aT:=hJ ((Below.refl v0.heap.size v0).alloc (Nat.le_refl _) (.cells #[.bool false,.slice none 0 0,.bool false,.slice none 0 0] 27))
  have aU:=hJ (P4.lit v0 27 (.bool false) (.slice none 0 0) (.bool false) (.slice none 0 0))
  obtain ⟨v8,hV⟩:=nmz (World.alloc v0 (.cells #[.bool false,.slice none 0 0,.bool false,.slice none 0 0] 27))
  obtain ⟨gx,hg⟩:=nmz (v0.heap.size)
  rw [hV] at aT aU  ⊢
  rw [hg] at aU  ⊢
  have aL:=hJ (show W.heap.size≤gx by rw [←hg]; exact aI.out.size)
  have bD:=hJ (bt aI.out aT.out)
  have b_8:=hJ ((b_0.out).new aT.out)
  clear hHeld
  refine hK.out _ _ (HS.out _ bD.out) (fun hHeld=>?_)
  clear hK K hV hg aT aI b_0
  try simp only [PT]
  refine ryy [1] ?_
  refine .cons rfl (fun K hK=>?_) .nil
  go_simp
  go_at_call 36
  refine (den_any r s sd se Ad Ae nd cd ne ce v8 (b_8.out) (by omega) aB.out.2.1).mono ?_
  rintro e v9 ⟨t1,T1,m1,d1,rfl,hr,hk⟩
  have N_9:=hJ (hr)
  have aV:=hJ hk
  go_wp2_with fail
  have bE:=hJ (bt bD.out aV.out)
  have b_9:=hJ ((b_8.out).new aV.out)
  have bM:=hJ (aU.out.new aV.out)
  clear hHeld
  refine hK.out _ _ (HS.out _ bE.out) (fun hHeld=>?_)
  clear hK K hk aV hr bD b_8 aU
  try simp only [PT]
  refine ryy [4] ?_
  refine .cons rfl (fun K hK=>?_) .nil
  go_simp
  go_at_call 43
  refine (fmake_any s r t1 sd T1 Ad m1 d1 nd cd v9 (N_9.out) (b_9.out.1) aB.out.2.2.2.2.2 aB.out.2.2.2.2.1).mono ?_
  rw [aA.out.1,aA.out.2.1,aA.out.2.2]
  rintro e v10 ⟨t3,T3,m3,d3,t4,T4,m4,d4,rfl,hr,hk⟩
  have R_10:=hJ (hr)
  have aO:=hJ hk
  go_wp2_with fail
  have bF:=hJ (bt bE.out aO.out)
  have b_10:=hJ ((b_9.out).new aO.out)
  have N_10:=hJ (PIo.new N_9.out aO.out)
  have aE:=hJ (bM.out.new aO.out)
  clear hHeld
  refine hK.out _ _ (HS.out _ bF.out) (fun hHeld=>?_)
  clear hK K hk aO hr bE b_9 N_9 bM
  refine tq 5 ?_
  refine tq 6 ?_
  refine tq 7 ?_
  try simp only [PT]
  refine ryy [9] ?_
  refine .cons rfl (fun K hK=>?_) .nil
  obtain ⟨z0,z1,z2,z3⟩:=aE.out.cells
  have y0:=aE.out.frozen 0
  have y1:=aE.out.frozen 1
  have y2:=aE.out.frozen 2
  have y3:=aE.out.frozen 3
  have z9:=aE.out.lt
  go_simp
  obtain ⟨v11,hV⟩:=nmz (World.setCell (World.setCell (World.setCell (World.setCell v10 ⟨gx,0,none⟩ (.bool t3)) ⟨gx,1,none⟩ (.slice T3 m3 d3)) ⟨gx,2,none⟩ (.bool t4)) ⟨gx,3,none⟩ (.slice T4 m4 d4))
  rw [hV]
  have bN:=hJ (show Below W.heap.size W v11 by rw [←hV]; exact below_box4 bF.out (aL.out) _ _ _ _)
  have b_11:=hJ (show PF v11 sd Ad nd cd se Ae ne ce r s by rw [←hV]; exact PF.box4 (b_10.out) (aE.out) (.bool t3) (.slice T3 m3 d3) (.bool t4) (.slice T4 m4 d4))
  have N_11:=hJ (show PI v11 t1 T1 m1 d1 s by rw [←hV]; exact PIo.box4 (N_10.out) (aE.out) rfl rfl rfl rfl (.bool t3) (.slice T3 m3 d3) (.bool t4) (.slice T4 m4 d4))
  have R_11:=hJ (show PF v11 t3 T3 m3 d3 t4 T4 m4 d4 P Q by rw [←hV]; exact PF.box4 (R_10.out) (aE.out) (.bool t3) (.slice T3 m3 d3) (.bool t4) (.slice T4 m4 d4))
  have bS:=hJ (show P4 27 v11 gx (.bool t3) (.slice T3 m3 d3) (.bool t4) (.slice T4 m4 d4) by rw [←hV]; exact aE.out.all (.bool t3) (.slice T3 m3 d3) (.bool t4) (.slice T4 m4 d4))
  clear hHeld
  refine hK.out _ _ (HS.out _ bN.out) (fun hHeld=>?_)
  clear hK K hV z9 z0 z1 z2 z3 y0 y1 y2 y3 bF b_10 N_10 R_10 aE
  refine tq 10 ?_
  try simp only [PT]
  refine wpAnyH_done (by kernel_rfl) ?_ _
  clear hHeld
  go_wp2_with fail
  go_meet
  exact ⟨gx,t3,T3,m3,d3,t4,T4,m4,d4,rfl,rfl,bS.out,R_11.out,bN.out⟩
 case rest =>
  obtain ⟨G,s1,A1,n1,c1,s2,A2,n2,c2,rfl,rfl,hq1,hr1,hbx⟩:=hcut
  have bT:=hJ hq1
  have bU:=hJ hr1
  have aP:=hJ hbx
  obtain ⟨x1,rfl⟩:=nm_world hbx
  clear hq1 hr1 hbx HS bJ
  have bV:=hJ (aW.out.new aP.out)
  have bW:=hJ (bG.out.new aP.out)
  have aF:=hJ (aX.out.new aP.out)
  have bO:=hJ (bt HK.out aP.out)
  clear aW bG aH bH aX bP HK aP
  by_cases hr0:r=0
  ·have HC:=hJ (show C=1 by rw [←aA.out.2.2,hr0]; rfl)
   have HV:=hJ (show dvP p q r s=0∧dvQ p q r s=1∧dvC p q r s=1 from ⟨if_pos hr0,if_pos hr0,if_pos hr0⟩)
   rw [HC.out]
   clear hr0 HC
   obtain ⟨z0,z1,z2,z3⟩:=aF.out.cells
   have f0:=aF.out.frozen 0
   have f1:=aF.out.frozen 1
   have f2:=aF.out.frozen 2
   have f3:=aF.out.frozen 3
   go_wp2
   exact bodyPost_ret (results_cell1 rfl _ _ _ _ _ _ _ rfl (aF.out.all (.bool false) (.slice none 0 0) (.bool false) (.slice none 0 0)) Tryz.underlying27 rfl F_size) rfl (by rw [HV.out.1,HV.out.2.1,HV.out.2.2]; exact RetFE.stored (p:=0) (q:=1) ⟨PI.zero _,PI.zero _⟩ aF.out bO.out (by rw [HH.out]; omega) _ _ _ _)
  ·have HC:=hJ (show C=0 by rw [←aA.out.2.2]; exact if_neg hr0)
   have HV:=hJ (show dvP p q r s=muP p q P Q∧dvQ p q r s=muQ p q P Q∧dvC p q r s=muC p q P Q by rw [←aA.out.1,←aA.out.2.1]; exact ⟨if_neg hr0,if_neg hr0,if_neg hr0⟩)
   have HM:=hJ (show 0 < Q∧P.natAbs < lim∧Q.natAbs < lim by rw [←aA.out.1,←aA.out.2.1]; exact ⟨mkQ_pos,mkPQ_lim aB.out.2.2.2.2.2 aB.out.2.2.2.2.1⟩)
   rw [HC.out]
   clear hr0 HC
   obtain ⟨a0,a1,a2,a3⟩:=bV.out.cells
   obtain ⟨g0,g1,g2,g3⟩:=bT.out.cells
   go_wp2_with fail
   refine (fmul_any p q P Q sa sb s1 s2 Aa Ab A1 A2 na ca nb cb n1 c1 n2 c2 x1 bW.out bU.out aB.out.1 HM.out.1 aB.out.2.2.1 aB.out.2.2.2.1 HM.out.2.1 HM.out.2.2).mono ?_
   rintro e w3 ⟨s3,A3,n3,c3,s4,A4,n4,c4,rfl,hr3,hb3⟩
   have bX:=hJ hr3
   have bY:=hJ (bt bO.out hb3)
   have aG:=hJ (aF.out.new hb3)
   clear hr3 hb3 a0 a1 a2 a3 g0 g1 g2 g3
   obtain ⟨z0,z1,z2,z3⟩:=aG.out.cells
   have f0:=aG.out.frozen 0
   have f1:=aG.out.frozen 1
   have f2:=aG.out.frozen 2
   have f3:=aG.out.frozen 3
   go_wp2
   exact bodyPost_ret (results_cell1 rfl _ _ _ _ _ _ _ rfl (aG.out.all (.bool s3) (.slice A3 n3 c3) (.bool s4) (.slice A4 n4 c4)) Tryz.underlying27 rfl F_size) rfl (by rw [HV.out.1,HV.out.2.1,HV.out.2.2]; exact RetFE.stored bX.out aG.out bY.out (by rw [HH.out]; omega) _ _ _ _)

end Go.Proofs.YteggneaefggbmaaGreat
