/- Contracts of the program's fractions: Mul. Conditions: as each statement has them. -/
import Derived.Test.YtdgicnhadecldaaGreatKFD
import Derived.Test.YtdgicnhadecldaaGreatKFG
import Derived.Deep.DeepCutAuto
namespace Go.Proofs.YtdgicnhadecldaaGreat
set_option maxRecDepth 100000
set_option maxHeartbeats 12800000
open Go.RowKit
attribute [local go_sem ↓] Go.wp_at_zero Go.wp_at_succ
set_option linter.unusedVariables false
set_option linter.unusedSimpArgs false
def muA (x y:Int):Int:=((Nat.gcd x.natAbs y.natAbs:Nat):Int)
def muN (p q r s:Int):Int:=p / muA p s*(r / muA r q)
def muD (p q r s:Int):Int:=q / muA r q*(s / muA p s)
def muK (p q r s:Int):Prop:=(muN p q r s).natAbs < lim∧(muD p q r s).natAbs < lim
instance (p q r s:Int):Decidable (muK p q r s):=by unfold muK; infer_instance
def muP (p q r s:Int):Int:=if muK p q r s then muN p q r s else 0
def muQ (p q r s:Int):Int:=if muK p q r s then muD p q r s else 1
def muC (p q r s:Int):Int:=if muK p q r s then 0 else 4
theorem mu_one {x y:Int} (hy:0 < y) (hl:y.natAbs < lim):muA x y≠0∧(muA x y).natAbs < lim:=by
 have h1:=Nat.gcd_pos_of_pos_right x.natAbs (show 0 < y.natAbs by omega)
 have h2:=Nat.gcd_le_right x.natAbs (show 0 < y.natAbs by omega)
 exact ⟨by unfold muA; omega,by unfold muA; rw [Int.natAbs_natCast]; omega⟩
theorem ed_lim {x y:Int} (h:x.natAbs < lim):(x / y).natAbs < lim:=Nat.lt_of_le_of_lt (Int.natAbs_ediv_le_natAbs _ _) h
theorem mu_gcd {p q r s:Int} (h:0 < q∧0 < s∧p.natAbs < lim∧q.natAbs < lim∧r.natAbs < lim∧s.natAbs < lim):(muA p s≠0∧(muA p s).natAbs < lim)∧(muA r q≠0∧(muA r q).natAbs < lim)∧(p / muA p s).natAbs < lim∧(r / muA r q).natAbs < lim∧(q / muA r q).natAbs < lim∧(s / muA p s).natAbs < lim :=
 ⟨mu_one h.2.1 h.2.2.2.2.2,mu_one h.1 h.2.2.2.1,ed_lim h.2.2.1,ed_lim h.2.2.2.2.1,ed_lim h.2.2.2.1,ed_lim h.2.2.2.2.2⟩
theorem mu_codes {p q r s u v:Int} (hu:muA p s=u) (hv:muA r q=v) :
  (feV [outC (p / u*(r / v)),outC (q / v*(s / u))]=0→outV (p / u*(r / v))=p / u*(r / v)∧outV (q / v*(s / u))=q / v*(s / u)∧muP p q r s=p / u*(r / v)∧muQ p q r s=q / v*(s / u)∧muC p q r s=0) ∧
  (feV [outC (p / u*(r / v)),outC (q / v*(s / u))]≠0→muP p q r s=0∧muQ p q r s=1∧muC p q r s=4∧feV [outC (p / u*(r / v)),outC (q / v*(s / u))]=4):=by
 have eN:muN p q r s=p / u*(r / v):=by unfold muN; rw [hu,hv]
 have eD:muD p q r s=q / v*(s / u):=by unfold muD; rw [hu,hv]
 have eK:muK p q r s↔(p / u*(r / v)).natAbs < lim∧(q / v*(s / u)).natAbs < lim:=by unfold muK; rw [eN,eD]
 have yes:muK p q r s→muP p q r s=muN p q r s∧muQ p q r s=muD p q r s∧muC p q r s=0:=fun h=>⟨if_pos h,if_pos h,if_pos h⟩
 have no:¬ muK p q r s→muP p q r s=0∧muQ p q r s=1∧muC p q r s=4:=fun h=>⟨if_neg h,if_neg h,if_neg h⟩
 rw [eN,eD] at yes
 generalize p / u*(r / v)=x at *
 generalize q / v*(s / u)=y at *
 rcases outVC x with ⟨a1,a2,a3⟩ | ⟨a1,a2,a3⟩
 ·rcases outVC y with ⟨b1,b2,b3⟩ | ⟨b1,b2,b3⟩
  ·rw [a2,b2,a3,b3]
   exact ⟨fun _=>⟨rfl,rfl,yes (eK.2 ⟨a1,b1⟩)⟩,fun h=>absurd rfl h⟩
  rw [a3,b3]
  have n:=no (fun k=>b1 (eK.1 k).2)
  exact ⟨fun h=>by simp [feV] at h,fun _=>⟨n.1,n.2.1,n.2.2,by simp [feV]⟩⟩
 ·rw [a3]
  have n:=no (fun k=>a1 (eK.1 k).1)
  exact ⟨fun h=>by simp [feV] at h,fun _=>⟨n.1,n.2.1,n.2.2,by simp [feV]⟩⟩
theorem pel_bx {t:TypeId} {w:World} {g:Nat} {s:Bool} {A:Option Addr} {n c:Nat} {y:Int} (hb:BX t w g #[.bool s,.slice A n c]) (h:PI w s A n c y) (hy:y.natAbs < lim):Pel w g [y]:=by
 intro i hi
 match i,hi with
 | 0,_=>exact ⟨s,A,n,c,hb.cell 0 rfl,hb.cell 1 rfl,h,hy⟩
theorem codes_bx {t:TypeId} {w:World} {g:Nat} {a b:Int} (hb:BX t w g #[.int .i64 a,.int .i64 b]):Codes w g [a,b]:=by
 intro i hi
 match i,hi with
 | 0,_=>exact hb.cell 0 rfl
 | 1,_=>exact hb.cell 1 rfl
theorem pv_b1 (x y:Int):pvV x [y]=outV (x*y):=by unfold pvV outV; split <;> rfl
theorem pc_b1 (x y:Int):pvC x [y]=outC (x*y):=by unfold pvC outC; split <;> rfl
theorem mul_lim0 {p q r s u v:Int} (h:feV [outC (p / u*(r / v)),outC (q / v*(s / u))]=0) (_:muA p s=u) (_:muA r q=v):(q / v*(s / u)).natAbs < lim:=by
 unfold feV at h
 by_cases c1:outC (p / u*(r / v))=0
 ·rw [if_pos c1] at h
  unfold feV at h
  by_cases c2:outC (q / v*(s / u))=0
  ·rcases outVC (q / v*(s / u)) with ⟨a1,_,_⟩ | ⟨_,_,a3⟩
   ·exact a1
   rw [a3] at c2
   cases c2
  rw [if_neg c2] at h
  exact absurd h c2
 ·rw [if_neg c1] at h
  exact absurd h c1
theorem fmul_any (p q r s:Int) (sa sb sd se:Bool) (Aa Ab Ad Ae:Option Addr) (na ca nb cb nd cd ne ce:Nat) (w:World) (hx:PF w sa Aa na ca sb Ab nb cb p q) (hy:PF w sd Ad nd cd se Ae ne ce r s) (hq:0 < q) (hs:0 < s) (hlp:p.natAbs < lim) (hlq:q.natAbs < lim) (hlr:r.natAbs < lim) (hls:s.natAbs < lim) :
  Calls Tryz.prog 66 #[.agg #[.bool sa,.slice Aa na ca,.bool sb,.slice Ab nb cb],.agg #[.bool sd,.slice Ad nd cd,.bool se,.slice Ae ne ce]] w (RetFE (muP p q r s) (muQ p q r s) (muC p q r s) w):=by
 have mS:=hJ hx
 have mT:=hJ hy
 have aJ:=hJ (show 0 < q∧0 < s∧p.natAbs < lim∧q.natAbs < lim∧r.natAbs < lim∧s.natAbs < lim from ⟨hq,hs,hlp,hlq,hlr,hls⟩)
 have aR:=hJ (mu_gcd (p:=p) (r:=r) aJ.out)
 clear hx hy hq hs hlp hlq hlr hls
 obtain ⟨gu,hu⟩:=nmz (muA p s)
 obtain ⟨gv,hv⟩:=nmz (muA r q)
 have HU:=hJ hu
 have cL:=hJ hv
 rw [hu,hv] at aR
 clear hu hv
 obtain ⟨x,hxc⟩:=nmz (feV [outC (p / gu*(r / gv)),outC (q / gv*(s / gu))])
 have iD:=hJ hxc
 have cV:=hJ (mu_codes (p:=p) (q:=q) (r:=r) (s:=s) HU.out cL.out)
 rw [hxc] at cV
 clear hxc
 obtain ⟨x1,cW⟩:=nmz (((w.alloc (.cells #[.bool sa,.slice Aa na ca,.bool sb,.slice Ab nb cb] 35)).alloc (.cells #[.bool sd,.slice Ad nd cd,.bool se,.slice Ae ne ce] 35)).alloc (.cells #[.bool false,.slice none 0 0,.bool false,.slice none 0 0] 35))
 have dR:=hJ (show Below w.heap.size w x1 by rw [←cW]; exact ((((Below.refl _ _).alloc (Nat.le_refl _) _).alloc (by simp only [World.size_alloc]; omega) _).alloc (by simp only [World.size_alloc]; omega) _))
 have cX:=hJ (show BX 35 x1 w.heap.size #[.bool sa,.slice Aa na ca,.bool sb,.slice Ab nb cb] by rw [←cW]; exact (((BX.at rfl).alloc _).alloc _))
 have cY:=hJ (show BX 35 x1 (w.heap.size+1) #[.bool sd,.slice Ad nd cd,.bool se,.slice Ae ne ce] by rw [←cW]; exact ((BX.at (by simp only [World.size_alloc])).alloc _))
 have iE:=hJ (show BX 35 x1 (w.heap.size+2) #[.bool false,.slice none 0 0,.bool false,.slice none 0 0] by rw [←cW]; exact (BX.at (by simp only [World.size_alloc])))
 have iF:=hJ (show w.heap.size≤w.heap.size+2 by omega)
 have aM:Hid (∀ w',Below x1.heap.size x1 w'→(fun w':World=>w'.cell? ⟨w.heap.size,0,none⟩=some (.bool sa)∧w'.cell? ⟨w.heap.size,1,none⟩=some (.slice Aa na ca)∧w'.cell? ⟨w.heap.size,2,none⟩=some (.bool sb)∧w'.cell? ⟨w.heap.size,3,none⟩=some (.slice Ab nb cb)∧w'.cell? ⟨w.heap.size+1,0,none⟩=some (.bool sd)∧w'.cell? ⟨w.heap.size+1,1,none⟩=some (.slice Ad nd cd)∧w'.cell? ⟨w.heap.size+1,2,none⟩=some (.bool se)∧w'.cell? ⟨w.heap.size+1,3,none⟩=some (.slice Ae ne ce)∧Below x1.heap.size x1 w') w'):=hJ (fun w' hb=>⟨(BX.new cX.out hb).cell 0 rfl,(BX.new cX.out hb).cell 1 rfl,(BX.new cX.out hb).cell 2 rfl,(BX.new cX.out hb).cell 3 rfl,(BX.new cY.out hb).cell 0 rfl,(BX.new cY.out hb).cell 1 rfl,(BX.new cY.out hb).cell 2 rfl,(BX.new cY.out hb).cell 3 rfl,hb⟩)
 have bQ:=hJ (PF.new mS.out dR.out)
 have bR:=hJ (PF.new mT.out dR.out)
 go_enter Tryz.func66,Tryz.ntmps66
 go_wp2_with fail
 clear cW
 obtain ⟨v2,hv2⟩:=nmz (World.drew x1)
 have cF:=hJ (show Below x1.heap.size x1 v2 by rw [←hv2]; exact (Below.refl _ _).drew)
 refine whd aM hv2 (fun hHeld=>?_)
 clear hv2
 refine tq 0 ?_
 refine tq 2 ?_
 try simp only [PT]
 refine wpAnyH_name (fun F hF a0 ha0 L0 hL0=>?_)
 have cM:∀ (s11:Bool) (A11:Option Addr) (n11:Nat) (c11:Nat) (s12:Bool) (A12:Option Addr) (n12:Nat) (c12:Nat) (aB:Nat) (aC:Nat) (v:World),Hid (Below x1.heap.size x1 v)→Hid (PI v s11 A11 n11 c11 q)→Hid (PI v s12 A12 n12 c12 s)→Hid (BX 33 v aB #[.bool false,.slice none 0 0])→Hid (x1.heap.size≤aB)→Hid (BX 33 v aC #[.bool false,.slice none 0 0])→Hid (x1.heap.size≤aC)→Hid (aB≠aC)→F 2 (Array.setIfInBounds (Array.setIfInBounds (Array.setIfInBounds (Array.setIfInBounds L0 1 true) 3 true) 4 true) 5 true) (Act.put (Act.put (Act.put (Act.put a0 (some 16) (.agg #[.bool s11,.slice A11 n11 c11])) (some 18) (.agg #[.bool s12,.slice A12 n12 c12])) (some 6) (.pointer (some ⟨aB,0,none⟩))) (some 7) (.pointer (some ⟨aC,0,none⟩))) v:=by
  intro s11 A11 n11 c11 s12 A12 n12 c12 aB aC v aA aW cB aU bG bA bH cN
  subst hF ha0 hL0
  simp only [PT] at  ⊢
  have hHeld:=aM.out _ aA.out
  refine ryy [6] ?_
  refine .cons rfl (fun K hK=>?_) .nil
  have z3_0:=aU.out.cell 0 rfl
  have y3_0:=aU.out.frozen 0
  have z3_1:=aU.out.cell 1 rfl
  have y3_1:=aU.out.frozen 1
  have z3:=aU.out.lt
  go_simp
  obtain ⟨v3,hV⟩:=nmz (World.setCell (World.setCell v ⟨aB,0,none⟩ (.bool s11)) ⟨aB,1,none⟩ (.slice A11 n11 c11))
  rw [hV]
  have cZ:=hJ (show sto v aB 0 [.bool s11,.slice A11 n11 c11]=v3 from hV)
  clear hV z3 z3_0 y3_0 z3_1 y3_1
  have iG:=hJ (show Below x1.heap.size x1 v3 by rw [←cZ.out]; exact below_sto aA.out bG.out _ _)
  have mU:=hJ (show PI v3 s11 A11 n11 c11 q by rw [←cZ.out]; exact PIo.sto aW.out aU.out rfl _ _)
  have mV:=hJ (show PI v3 s12 A12 n12 c12 s by rw [←cZ.out]; exact PIo.sto cB.out aU.out rfl _ _)
  have cC:=hJ (show BX 33 v3 aC #[.bool false,.slice none 0 0] by rw [←cZ.out]; exact BX.far bA.out cN.out.symm _ _)
  have mW:=hJ (show BX 33 v3 aB #[.bool s11,.slice A11 n11 c11] by rw [←cZ.out]; exact BX.put aU.out _ _)
  clear hHeld
  refine hK.out _ _ (aM.out _ iG.out) (fun hHeld=>?_)
  clear hK K
  try simp only [PT]
  refine ryy [7] ?_
  refine .cons rfl (fun K hK=>?_) .nil
  have z4_0:=cC.out.cell 0 rfl
  have y4_0:=cC.out.frozen 0
  have z4_1:=cC.out.cell 1 rfl
  have y4_1:=cC.out.frozen 1
  have z4:=cC.out.lt
  go_simp
  obtain ⟨v4,hV⟩:=nmz (World.setCell (World.setCell v3 ⟨aC,0,none⟩ (.bool s12)) ⟨aC,1,none⟩ (.slice A12 n12 c12))
  rw [hV]
  have dA:=hJ (show sto v3 aC 0 [.bool s12,.slice A12 n12 c12]=v4 from hV)
  clear hV z4 z4_0 y4_0 z4_1 y4_1
  have bS:=hJ (show Below x1.heap.size x1 v4 by rw [←dA.out]; exact below_sto iG.out bH.out _ _)
  have bT:=hJ (show PI v4 s11 A11 n11 c11 q by rw [←dA.out]; exact PIo.sto mU.out cC.out rfl _ _)
  have bU:=hJ (show PI v4 s12 A12 n12 c12 s by rw [←dA.out]; exact PIo.sto mV.out cC.out rfl _ _)
  have fI:=hJ (show BX 33 v4 aB #[.bool s11,.slice A11 n11 c11] by rw [←dA.out]; exact BX.far mW.out cN.out _ _)
  have fJ:=hJ (show BX 33 v4 aC #[.bool s12,.slice A12 n12 c12] by rw [←dA.out]; exact BX.put cC.out _ _)
  clear hHeld
  refine hK.out _ _ (aM.out _ bS.out) (fun hHeld=>?_)
  clear hK K
  try simp only [PT]
  refine wpAnyH_done (by kernel_rfl) ?_ _
  clear hHeld
  have fK:=hJ (BX.new cX.out bS.out)
  have fL:=hJ (BX.new cY.out bS.out)
  have aO:Hid (∀ w',Below v4.heap.size v4 w'→(fun w':World=>w'.cell? ⟨w.heap.size,0,none⟩=some (.bool sa)∧w'.cell? ⟨w.heap.size,1,none⟩=some (.slice Aa na ca)∧w'.cell? ⟨aC,0,none⟩=some (.bool s12)∧w'.cell? ⟨aC,1,none⟩=some (.slice A12 n12 c12)∧w'.cell? ⟨w.heap.size+1,0,none⟩=some (.bool sd)∧w'.cell? ⟨w.heap.size+1,1,none⟩=some (.slice Ad nd cd)∧w'.cell? ⟨aB,0,none⟩=some (.bool s11)∧w'.cell? ⟨aB,1,none⟩=some (.slice A11 n11 c11)∧Below v4.heap.size v4 w') w'):=hJ (fun w' hb=>⟨(BX.new fK.out hb).cell 0 rfl,(BX.new fK.out hb).cell 1 rfl,(BX.new fJ.out hb).cell 0 rfl,(BX.new fJ.out hb).cell 1 rfl,(BX.new fL.out hb).cell 0 rfl,(BX.new fL.out hb).cell 1 rfl,(BX.new fI.out hb).cell 0 rfl,(BX.new fI.out hb).cell 1 rfl,hb⟩)
  have bV:=hJ (PF.new bQ.out bS.out)
  have bW:=hJ (PF.new bR.out bS.out)
  go_wp2_with fail
  obtain ⟨v7,hv7⟩:=nmz (World.drew v4)
  have bX:=hJ (show Below v4.heap.size v4 v7 by rw [←hv7]; exact (Below.refl _ _).drew)
  refine whd aO hv7 (fun hHeld=>?_)
  clear hv7
  refine tq 0 ?_
  refine tq 1 ?_
  refine tq 2 ?_
  refine tq 4 ?_
  refine tq 5 ?_
  refine tq 6 ?_
  try simp only [PT]
  refine wpAnyH_name (fun F hF a0 ha0 L0 hL0=>?_)
  have cO:∀ (s13:Bool) (A13:Option Addr) (n13:Nat) (c13:Nat) (s14:Bool) (A14:Option Addr) (n14:Nat) (c14:Nat) (aD:Nat) (aG:Nat) (v:World),Hid (Below v4.heap.size v4 v)→Hid (PI v s13 A13 n13 c13 gu)→Hid (PI v s14 A14 n14 c14 gv)→Hid (BX 33 v aD #[.bool false,.slice none 0 0])→Hid (v4.heap.size≤aD)→Hid (BX 33 v aG #[.bool false,.slice none 0 0])→Hid (v4.heap.size≤aG)→Hid (aD≠aG)→F 2 (Array.setIfInBounds (Array.setIfInBounds (Array.setIfInBounds (Array.setIfInBounds L0 3 true) 7 true) 8 true) 9 true) (Act.put (Act.put (Act.put (Act.put a0 (some 22) (.agg #[.bool s13,.slice A13 n13 c13])) (some 26) (.agg #[.bool s14,.slice A14 n14 c14])) (some 8) (.pointer (some ⟨aD,0,none⟩))) (some 9) (.pointer (some ⟨aG,0,none⟩))) v:=by
   intro s13 A13 n13 c13 s14 A14 n14 c14 aD aG v aA aX cD aV bJ bB bK cP
   subst hF ha0 hL0
   simp only [PT] at  ⊢
   have hHeld:=aO.out _ aA.out
   refine ryy [10] ?_
   refine .cons rfl (fun K hK=>?_) .nil
   have z8_0:=aV.out.cell 0 rfl
   have y8_0:=aV.out.frozen 0
   have z8_1:=aV.out.cell 1 rfl
   have y8_1:=aV.out.frozen 1
   have z8:=aV.out.lt
   go_simp
   obtain ⟨v8,hV⟩:=nmz (World.setCell (World.setCell v ⟨aD,0,none⟩ (.bool s13)) ⟨aD,1,none⟩ (.slice A13 n13 c13))
   rw [hV]
   have dB:=hJ (show sto v aD 0 [.bool s13,.slice A13 n13 c13]=v8 from hV)
   clear hV z8 z8_0 y8_0 z8_1 y8_1
   have iH:=hJ (show Below v4.heap.size v4 v8 by rw [←dB.out]; exact below_sto aA.out bJ.out _ _)
   have mX:=hJ (show PI v8 s13 A13 n13 c13 gu by rw [←dB.out]; exact PIo.sto aX.out aV.out rfl _ _)
   have mY:=hJ (show PI v8 s14 A14 n14 c14 gv by rw [←dB.out]; exact PIo.sto cD.out aV.out rfl _ _)
   have cE:=hJ (show BX 33 v8 aG #[.bool false,.slice none 0 0] by rw [←dB.out]; exact BX.far bB.out cP.out.symm _ _)
   have mZ:=hJ (show BX 33 v8 aD #[.bool s13,.slice A13 n13 c13] by rw [←dB.out]; exact BX.put aV.out _ _)
   clear hHeld
   refine hK.out _ _ (aO.out _ iH.out) (fun hHeld=>?_)
   clear hK K
   try simp only [PT]
   refine ryy [11] ?_
   refine .cons rfl (fun K hK=>?_) .nil
   have z9_0:=cE.out.cell 0 rfl
   have y9_0:=cE.out.frozen 0
   have z9_1:=cE.out.cell 1 rfl
   have y9_1:=cE.out.frozen 1
   have z9:=cE.out.lt
   go_simp
   obtain ⟨v9,hV⟩:=nmz (World.setCell (World.setCell v8 ⟨aG,0,none⟩ (.bool s14)) ⟨aG,1,none⟩ (.slice A14 n14 c14))
   rw [hV]
   have dD:=hJ (show sto v8 aG 0 [.bool s14,.slice A14 n14 c14]=v9 from hV)
   clear hV z9 z9_0 y9_0 z9_1 y9_1
   have bN:=hJ (show Below v4.heap.size v4 v9 by rw [←dD.out]; exact below_sto iH.out bK.out _ _)
   have dE:=hJ (show PI v9 s13 A13 n13 c13 gu by rw [←dD.out]; exact PIo.sto mX.out cE.out rfl _ _)
   have dG:=hJ (show PI v9 s14 A14 n14 c14 gv by rw [←dD.out]; exact PIo.sto mY.out cE.out rfl _ _)
   have fM:=hJ (show BX 33 v9 aD #[.bool s13,.slice A13 n13 c13] by rw [←dD.out]; exact BX.far mZ.out cP.out _ _)
   have fN:=hJ (show BX 33 v9 aG #[.bool s14,.slice A14 n14 c14] by rw [←dD.out]; exact BX.put cE.out _ _)
   clear hHeld
   refine hK.out _ _ (aO.out _ bN.out) (fun hHeld=>?_)
   clear hK K
   try simp only [PT]
   refine wpAnyH_done (by kernel_rfl) ?_ _
   clear hHeld
   have iI:=hJ (BX.new fK.out bN.out)
   have iJ:=hJ (BX.new fL.out bN.out)
   have aS:Hid (∀ w',Below v9.heap.size v9 w'→(fun w':World=>w'.cell? ⟨w.heap.size,0,none⟩=some (.bool sa)∧w'.cell? ⟨w.heap.size,1,none⟩=some (.slice Aa na ca)∧w'.cell? ⟨aD,0,none⟩=some (.bool s13)∧w'.cell? ⟨aD,1,none⟩=some (.slice A13 n13 c13)∧w'.cell? ⟨w.heap.size+1,0,none⟩=some (.bool sd)∧w'.cell? ⟨w.heap.size+1,1,none⟩=some (.slice Ad nd cd)∧w'.cell? ⟨aG,0,none⟩=some (.bool s14)∧w'.cell? ⟨aG,1,none⟩=some (.slice A14 n14 c14)∧Below v9.heap.size v9 w') w'):=hJ (fun w' hb=>⟨(BX.new iI.out hb).cell 0 rfl,(BX.new iI.out hb).cell 1 rfl,(BX.new fM.out hb).cell 0 rfl,(BX.new fM.out hb).cell 1 rfl,(BX.new iJ.out hb).cell 0 rfl,(BX.new iJ.out hb).cell 1 rfl,(BX.new fN.out hb).cell 0 rfl,(BX.new fN.out hb).cell 1 rfl,hb⟩)
   have dS:=hJ (PF.new bV.out bN.out)
   have dT:=hJ (PF.new bW.out bN.out)
   go_wp2_with fail
   obtain ⟨v12,hv12⟩:=nmz (World.drew v9)
   have cG:=hJ (show Below v9.heap.size v9 v12 by rw [←hv12]; exact (Below.refl _ _).drew)
   refine whd aS hv12 (fun hHeld=>?_)
   clear hv12
   refine tq 0 ?_
   refine tq 1 ?_
   refine tq 2 ?_
   refine tq 4 ?_
   refine tq 5 ?_
   refine tq 6 ?_
   try simp only [PT]
   refine wpAnyH_name (fun F hF a0 ha0 L0 hL0=>?_)
   have dU:∀ (s15:Bool) (A15:Option Addr) (n15:Nat) (c15:Nat) (s16:Bool) (A16:Option Addr) (n16:Nat) (c16:Nat) (aK:Nat) (s18:Bool) (A18:Option Addr) (n18:Nat) (c18:Nat) (aH:Nat) (v:World),Hid (Below v9.heap.size v9 v)→Hid (PI v s15 A15 n15 c15 (p / gu))→Hid (PI v s16 A16 n16 c16 (r / gv))→Hid (BX 33 v aK #[.bool s16,.slice A16 n16 c16])→Hid (v9.heap.size≤aK)→Hid (PI v s18 A18 n18 c18 (outV (p / gu*(r / gv))))→Hid (BX 33 v aH #[.bool false,.slice none 0 0])→Hid (v9.heap.size≤aH)→Hid (aK≠aH)→F 2 (Array.setIfInBounds (Array.setIfInBounds (Array.setIfInBounds (Array.setIfInBounds (Array.setIfInBounds (Array.setIfInBounds (Array.setIfInBounds (Array.setIfInBounds L0 3 true) 7 true) 8 true) 9 true) 13 true) 10 true) 11 true) 12 true) (Act.put (Act.put (Act.put (Act.put (Act.put (Act.put (Act.put (Act.put a0 (some 31) (.agg #[.bool s15,.slice A15 n15 c15])) (some 35) (.agg #[.bool s16,.slice A16 n16 c16])) (some 36) (.slice (some ⟨aK,0,none⟩) 1 1)) (some 37) (.tuple #[.agg #[.bool s18,.slice A18 n18 c18],.int .i64 (outC (p / gu*(r / gv)))])) (some 10) (.pointer (some ⟨aH,0,none⟩))) (some 27) (.tuple #[.agg #[.bool s18,.slice A18 n18 c18],.int .i64 (outC (p / gu*(r / gv)))])) (some 38) (.agg #[.bool s18,.slice A18 n18 c18])) (some 39) (.int .i64 (outC (p / gu*(r / gv))))) v:=by
    intro s15 A15 n15 c15 s16 A16 n16 c16 aK s18 A18 n18 c18 aH v aA aY bE bL cH fO bC bY iK
    subst hF ha0 hL0
    simp only [PT] at  ⊢
    have hHeld:=aS.out _ aA.out
    refine ryy [14] ?_
    refine .cons rfl (fun K hK=>?_) .nil
    have z13_0:=bC.out.cell 0 rfl
    have y13_0:=bC.out.frozen 0
    have z13_1:=bC.out.cell 1 rfl
    have y13_1:=bC.out.frozen 1
    have z13:=bC.out.lt
    go_simp
    obtain ⟨v13,hV⟩:=nmz (World.setCell (World.setCell v ⟨aH,0,none⟩ (.bool s18)) ⟨aH,1,none⟩ (.slice A18 n18 c18))
    rw [hV]
    have fP:=hJ (show sto v aH 0 [.bool s18,.slice A18 n18 c18]=v13 from hV)
    clear hV z13 z13_0 y13_0 z13_1 y13_1
    have bO:=hJ (show Below v9.heap.size v9 v13 by rw [←fP.out]; exact below_sto aA.out bY.out _ _)
    have nA:=hJ (show PI v13 s18 A18 n18 c18 (outV (p / gu*(r / gv))) by rw [←fP.out]; exact PIo.sto fO.out bC.out rfl _ _)
    have nB:=hJ (show BX 33 v13 aH #[.bool s18,.slice A18 n18 c18] by rw [←fP.out]; exact BX.put bC.out _ _)
    clear hHeld
    refine hK.out _ _ (aS.out _ bO.out) (fun hHeld=>?_)
    clear hK K
    refine tq 15 ?_
    try simp only [PT]
    refine wpAnyH_done (by kernel_rfl) ?_ _
    clear hHeld
    have dW:=hJ (bt bN.out bO.out)
    have iL:=hJ (BX.new fI.out dW.out)
    have iM:=hJ (BX.new fN.out bO.out)
    have iN:=hJ (BX.new fJ.out dW.out)
    have iO:=hJ (BX.new fM.out bO.out)
    have aT:Hid (∀ w',Below v13.heap.size v13 w'→(fun w':World=>w'.cell? ⟨aB,0,none⟩=some (.bool s11)∧w'.cell? ⟨aB,1,none⟩=some (.slice A11 n11 c11)∧w'.cell? ⟨aG,0,none⟩=some (.bool s14)∧w'.cell? ⟨aG,1,none⟩=some (.slice A14 n14 c14)∧w'.cell? ⟨aC,0,none⟩=some (.bool s12)∧w'.cell? ⟨aC,1,none⟩=some (.slice A12 n12 c12)∧w'.cell? ⟨aD,0,none⟩=some (.bool s13)∧w'.cell? ⟨aD,1,none⟩=some (.slice A13 n13 c13)∧Below v13.heap.size v13 w') w'):=hJ (fun w' hb=>⟨(BX.new iL.out hb).cell 0 rfl,(BX.new iL.out hb).cell 1 rfl,(BX.new iM.out hb).cell 0 rfl,(BX.new iM.out hb).cell 1 rfl,(BX.new iN.out hb).cell 0 rfl,(BX.new iN.out hb).cell 1 rfl,(BX.new iO.out hb).cell 0 rfl,(BX.new iO.out hb).cell 1 rfl,hb⟩)
    have dX:=hJ (PIo.new bT.out dW.out)
    have dY:=hJ (PIo.new dG.out bO.out)
    have dZ:=hJ (PIo.new bU.out dW.out)
    have eA:=hJ (PIo.new dE.out bO.out)
    go_wp2_with fail
    obtain ⟨v16,hv16⟩:=nmz (World.drew v13)
    have cI:=hJ (show Below v13.heap.size v13 v16 by rw [←hv16]; exact (Below.refl _ _).drew)
    refine whd aT hv16 (fun hHeld=>?_)
    clear hv16
    refine tq 0 ?_
    refine tq 1 ?_
    refine tq 3 ?_
    refine tq 4 ?_
    try simp only [PT]
    refine wpAnyH_name (fun F hF a0 ha0 L0 hL0=>?_)
    have eB:∀ (s19:Bool) (A19:Option Addr) (n19:Nat) (c19:Nat) (s20:Bool) (A20:Option Addr) (n20:Nat) (c20:Nat) (aL:Nat) (s22:Bool) (A22:Option Addr) (n22:Nat) (c22:Nat) (aI:Nat) (v:World),Hid (Below v13.heap.size v13 v)→Hid (PI v s19 A19 n19 c19 (q / gv))→Hid (PI v s20 A20 n20 c20 (s / gu))→Hid (BX 33 v aL #[.bool s20,.slice A20 n20 c20])→Hid (v13.heap.size≤aL)→Hid (PI v s22 A22 n22 c22 (outV (q / gv*(s / gu))))→Hid (BX 33 v aI #[.bool false,.slice none 0 0])→Hid (v13.heap.size≤aI)→Hid (aL≠aI)→F 2 (Array.setIfInBounds (Array.setIfInBounds (Array.setIfInBounds (Array.setIfInBounds (Array.setIfInBounds (Array.setIfInBounds (Array.setIfInBounds (Array.setIfInBounds L0 2 true) 5 true) 6 true) 7 true) 11 true) 8 true) 9 true) 10 true) (Act.put (Act.put (Act.put (Act.put (Act.put (Act.put (Act.put (Act.put a0 (some 43) (.agg #[.bool s19,.slice A19 n19 c19])) (some 46) (.agg #[.bool s20,.slice A20 n20 c20])) (some 47) (.slice (some ⟨aL,0,none⟩) 1 1)) (some 48) (.tuple #[.agg #[.bool s22,.slice A22 n22 c22],.int .i64 (outC (q / gv*(s / gu)))])) (some 12) (.pointer (some ⟨aI,0,none⟩))) (some 40) (.tuple #[.agg #[.bool s22,.slice A22 n22 c22],.int .i64 (outC (q / gv*(s / gu)))])) (some 49) (.agg #[.bool s22,.slice A22 n22 c22])) (some 50) (.int .i64 (outC (q / gv*(s / gu))))) v:=by
     intro s19 A19 n19 c19 s20 A20 n20 c20 aL s22 A22 n22 c22 aI v aA aZ bF bM cJ fQ bD bZ iP
     subst hF ha0 hL0
     simp only [PT] at  ⊢
     have hHeld:=aT.out _ aA.out
     refine ryy [12] ?_
     refine .cons rfl (fun K hK=>?_) .nil
     have z17_0:=bD.out.cell 0 rfl
     have y17_0:=bD.out.frozen 0
     have z17_1:=bD.out.cell 1 rfl
     have y17_1:=bD.out.frozen 1
     have z17:=bD.out.lt
     go_simp
     obtain ⟨v17,hV⟩:=nmz (World.setCell (World.setCell v ⟨aI,0,none⟩ (.bool s22)) ⟨aI,1,none⟩ (.slice A22 n22 c22))
     rw [hV]
     have fR:=hJ (show sto v aI 0 [.bool s22,.slice A22 n22 c22]=v17 from hV)
     clear hV z17 z17_0 y17_0 z17_1 y17_1
     have cQ:=hJ (show Below v13.heap.size v13 v17 by rw [←fR.out]; exact below_sto aA.out bZ.out _ _)
     have nC:=hJ (show PI v17 s22 A22 n22 c22 (outV (q / gv*(s / gu))) by rw [←fR.out]; exact PIo.sto fQ.out bD.out rfl _ _)
     have nD:=hJ (show BX 33 v17 aI #[.bool s22,.slice A22 n22 c22] by rw [←fR.out]; exact BX.put bD.out _ _)
     clear hHeld
     refine hK.out _ _ (aT.out _ cQ.out) (fun hHeld=>?_)
     clear hK K
     refine tq 13 ?_
     try simp only [PT]
     refine wpAnyH_done (by kernel_rfl) ?_ _
     clear hHeld
     obtain ⟨x20,fS⟩:=nmz (v17.alloc (.cells #[.int .i64 (outC (p / gu*(r / gv))),.int .i64 (outC (q / gv*(s / gu)))] 40))
     have cK:=hJ (show Below v17.heap.size v17 x20 by rw [←fS]; exact ((Below.refl _ _).alloc (Nat.le_refl _) _))
     have nE:=hJ (show BX 40 x20 v17.heap.size #[.int .i64 (outC (p / gu*(r / gv))),.int .i64 (outC (q / gv*(s / gu)))] by rw [←fS]; exact (BX.at rfl))
     go_wp2_with fail
     clear fS
     refine (ferror_any [outC (p / gu*(r / gv)),outC (q / gv*(s / gu))] v17.heap.size 2 x20 (codes_bx nE.out) rfl (by decide)).mono ?_
     rw [iD.out]
     rintro e w21 ⟨rfl,rfl⟩
     by_cases fT:x=0
     ·subst fT
      have HE:=hJ (cV.out.1 rfl)
      clear cV
      have iQ:=hJ (bt cQ.out cK.out)
      have nF:=hJ (PIo.new nA.out iQ.out)
      have nG:=hJ (PIo.new nC.out cK.out)
      have nH:=hJ (show PI x20 s18 A18 n18 c18 (p / gu*(r / gv)) by have h:=nF.out; rw [HE.out.1] at h; exact h)
      have iR:=hJ (show PI x20 s22 A22 n22 c22 (q / gv*(s / gu)) by have h:=nG.out; rw [HE.out.2.1] at h; exact h)
      have nJ:=hJ (show (q / gv*(s / gu)).natAbs < lim from mul_lim0 iD.out HU.out cL.out)
      have nK:=hJ (BX.new nB.out iQ.out)
      obtain ⟨nL,nM⟩:=nK.out.c2 0 1 rfl rfl
      have nN:=hJ (BX.new nD.out cK.out)
      obtain ⟨nO,nP⟩:=nN.out.c2 0 1 rfl rfl
      go_wp2_with fail
      clear nL nM nO nP
      refine (flowest_any (p / gu*(r / gv)) (q / gv*(s / gu)) s18 s22 A18 A22 n18 c18 n22 c22 x20 nH.out iR.out (Nat.le_trans (plim iR.out nJ.out) (by decide))).mono ?_
      rw [←HE.out.2.2.1,←HE.out.2.2.2.1]
      rintro e w26 ⟨s23,A23,n23,c23,t23,B23,m23,d23,rfl,hr23,hb⟩
      have iS:=hJ hb
      have nQ:=hJ hr23
      clear hb hr23
      have nR:=hJ (bt (bt (bt (bt (bt bS.out bN.out) bO.out) cQ.out) cK.out) iS.out)
      have bP:=hJ (BX.new iE.out nR.out)
      have nS:=bP.out.frozen 0
      have nT:=bP.out.cell 0 rfl
      have nU:=bP.out.frozen 1
      have nW:=bP.out.cell 1 rfl
      have nX:=bP.out.frozen 2
      have nY:=bP.out.cell 2 rfl
      have nZ:=bP.out.frozen 3
      have oA:=bP.out.cell 3 rfl
      obtain ⟨x27,iT⟩:=nmz (World.setCell (World.setCell (World.setCell (World.setCell w26 ⟨w.heap.size+2,0,none⟩ (.bool s23)) ⟨w.heap.size+2,1,none⟩ (.slice A23 n23 c23)) ⟨w.heap.size+2,2,none⟩ (.bool t23)) ⟨w.heap.size+2,3,none⟩ (.slice B23 m23 d23))
      have fU:=hJ (show sto w26 (w.heap.size+2) 0 [.bool s23,.slice A23 n23 c23,.bool t23,.slice B23 m23 d23]=x27 from iT)
      have oB:=hJ (show BX 35 x27 (w.heap.size+2) #[.bool s23,.slice A23 n23 c23,.bool t23,.slice B23 m23 d23] by rw [←fU.out]; exact BX.put bP.out _ _)
      have oC:=hJ (show Below w.heap.size w x27 by rw [←fU.out]; exact below_sto (bt (bt (bt (bt (bt (bt dR.out bS.out) bN.out) bO.out) cQ.out) cK.out) iS.out) iF.out _ _)
      have oD:=hJ (show PF x27 s23 A23 n23 c23 t23 B23 m23 d23 (muP p q r s) (muQ p q r s) by rw [←fU.out]; exact PF.sto nQ.out bP.out rfl _ _)
      go_wp2
      clear nS nT nU nW nX nY nZ oA iT
      exact bodyPost_ret (results_cell1 rfl _ _ _ _ _ _ _ rfl oB.out Tryz.underlying35 rfl F_size) rfl (by rw [HE.out.2.2.2.2]; exact ⟨s23,A23,n23,c23,t23,B23,m23,d23,rfl,oD.out,oC.out⟩)
     have HE:=hJ (cV.out.2 fT)
     obtain rfl:x=4:=HE.out.2.2.2
     clear fT cV
     have oE:=hJ (bt (bt (bt (bt bS.out bN.out) bO.out) cQ.out) cK.out)
     have cA:=hJ (BX.new iE.out oE.out)
     have oF:=cA.out.frozen 0
     have oG:=cA.out.cell 0 rfl
     have oH:=cA.out.frozen 1
     have oI:=cA.out.cell 1 rfl
     have oJ:=cA.out.frozen 2
     have oK:=cA.out.cell 2 rfl
     have oL:=cA.out.frozen 3
     have oM:=cA.out.cell 3 rfl
     obtain ⟨x28,iU⟩:=nmz (World.setCell (World.setCell (World.setCell (World.setCell x20 ⟨w.heap.size+2,0,none⟩ (.bool false)) ⟨w.heap.size+2,1,none⟩ (.slice none 0 0)) ⟨w.heap.size+2,2,none⟩ (.bool false)) ⟨w.heap.size+2,3,none⟩ (.slice none 0 0))
     have iV:=hJ (show sto x20 (w.heap.size+2) 0 [.bool false,.slice none 0 0,.bool false,.slice none 0 0]=x28 from iU)
     have oN:=hJ (show BX 35 x28 (w.heap.size+2) #[.bool false,.slice none 0 0,.bool false,.slice none 0 0] by rw [←iV.out]; exact BX.put cA.out _ _)
     have oO:=hJ (show Below w.heap.size w x28 by rw [←iV.out]; exact below_sto (bt (bt (bt (bt (bt dR.out bS.out) bN.out) bO.out) cQ.out) cK.out) iF.out _ _)
     go_wp2
     clear oF oG oH oI oJ oK oL oM iU
     exact bodyPost_ret (results_cell1 rfl _ _ _ _ _ _ _ rfl oN.out Tryz.underlying35 rfl F_size) rfl (by rw [HE.out.1,HE.out.2.1,HE.out.2.2.1]; exact ⟨false,none,0,0,false,none,0,0,rfl,⟨PI.zero _,PI.zero _⟩,oO.out⟩)
    have iW:∀ (s19:Bool) (A19:Option Addr) (n19:Nat) (c19:Nat) (s20:Bool) (A20:Option Addr) (n20:Nat) (c20:Nat) (aL:Nat) (s22:Bool) (A22:Option Addr) (n22:Nat) (c22:Nat) (v:World),Hid (Below v13.heap.size v13 v)→Hid (PI v s19 A19 n19 c19 (q / gv))→Hid (PI v s20 A20 n20 c20 (s / gu))→Hid (BX 33 v aL #[.bool s20,.slice A20 n20 c20])→Hid (v13.heap.size≤aL)→Hid (PI v s22 A22 n22 c22 (outV (q / gv*(s / gu))))→F 3 (Array.setIfInBounds (Array.setIfInBounds (Array.setIfInBounds (Array.setIfInBounds (Array.setIfInBounds (Array.setIfInBounds (Array.setIfInBounds L0 2 true) 5 true) 6 true) 7 true) 8 true) 9 true) 10 true) (Act.put (Act.put (Act.put (Act.put (Act.put (Act.put (Act.put a0 (some 43) (.agg #[.bool s19,.slice A19 n19 c19])) (some 46) (.agg #[.bool s20,.slice A20 n20 c20])) (some 47) (.slice (some ⟨aL,0,none⟩) 1 1)) (some 48) (.tuple #[.agg #[.bool s22,.slice A22 n22 c22],.int .i64 (outC (q / gv*(s / gu)))])) (some 40) (.tuple #[.agg #[.bool s22,.slice A22 n22 c22],.int .i64 (outC (q / gv*(s / gu)))])) (some 49) (.agg #[.bool s22,.slice A22 n22 c22])) (some 50) (.int .i64 (outC (q / gv*(s / gu))))) v:=by
     intro s19 A19 n19 c19 s20 A20 n20 c20 aL s22 A22 n22 c22 v aA aZ bF bM cJ fQ
     subst hF ha0 hL0
     simp only [PT] at eB ⊢
     have hHeld:=aT.out _ aA.out
     refine ryy [11] ?_
     refine .cons rfl (fun K hK=>?_) .nil
     go_simp
     have cR:=hJ ((Below.refl v.heap.size v).alloc (Nat.le_refl _) (.cells #[.bool false,.slice none 0 0] 33))
     have fV:=hJ (BX.lit v 33 #[.bool false,.slice none 0 0])
     obtain ⟨v29,hV⟩:=nmz (World.alloc v (.cells #[.bool false,.slice none 0 0] 33))
     obtain ⟨aI,hg⟩:=nmz (v.heap.size)
     rw [hV] at cR fV ⊢
     rw [hg] at fV ⊢
     have oP:=hJ (show v13.heap.size≤aI by rw [←hg]; exact aA.out.size)
     have oQ:=hJ (show aL≠aI by have:=bM.out.lt; rw [hg] at this; omega)
     clear hV hg
     have iX:=hJ (bt aA.out cR.out)
     have oR:=hJ (PIo.new aZ.out cR.out)
     have oS:=hJ (PIo.new bF.out cR.out)
     have oT:=hJ (PIo.new fQ.out cR.out)
     have oU:=hJ (BX.new bM.out cR.out)
     clear hHeld
     refine hK.out _ _ (aT.out _ iX.out) (fun hHeld=>?_)
     clear hK K
     try simp only [PT]
     exact wpAnyH_cast (by kernel_rfl) (eB s19 A19 n19 c19 s20 A20 n20 c20 aL s22 A22 n22 c22 aI v29 iX oR oS oU cJ oT fV oP (hJ oQ.out))
    have eC:∀ (s19:Bool) (A19:Option Addr) (n19:Nat) (c19:Nat) (s20:Bool) (A20:Option Addr) (n20:Nat) (c20:Nat) (aL:Nat) (aI:Nat) (v:World),Hid (Below v13.heap.size v13 v)→Hid (PI v s19 A19 n19 c19 (q / gv))→Hid (PI v s20 A20 n20 c20 (s / gu))→Hid (BX 33 v aL #[.bool s20,.slice A20 n20 c20])→Hid (v13.heap.size≤aL)→Hid (BX 33 v aI #[.bool false,.slice none 0 0])→Hid (v13.heap.size≤aI)→Hid (aL≠aI)→F 6 (Array.setIfInBounds (Array.setIfInBounds (Array.setIfInBounds (Array.setIfInBounds L0 2 true) 5 true) 6 true) 11 true) (Act.put (Act.put (Act.put (Act.put a0 (some 43) (.agg #[.bool s19,.slice A19 n19 c19])) (some 46) (.agg #[.bool s20,.slice A20 n20 c20])) (some 47) (.slice (some ⟨aL,0,none⟩) 1 1)) (some 12) (.pointer (some ⟨aI,0,none⟩))) v:=by
     intro s19 A19 n19 c19 s20 A20 n20 c20 aL aI v aA aZ bF bM cJ bD bZ iP
     subst hF ha0 hL0
     simp only [PT] at eB ⊢
     have hHeld:=aT.out _ aA.out
     refine ryy [7] ?_
     refine .cons rfl (fun K hK=>?_) .nil
     go_simp
     go_at_call 91
     refine (fproduct_any [s / gu] (q / gv) s19 A19 n19 c19 aL 1 v aZ.out aR.out.2.2.2.2.1 (pel_bx bM.out bF.out aR.out.2.2.2.2.2) bM.out.lt rfl (by decide)).mono ?_
     rw [show pvV (q / gv) [s / gu]=outV (q / gv*(s / gu)) from pv_b1 _ _,show pvC (q / gv) [s / gu]=outC (q / gv*(s / gu)) from pc_b1 _ _]
     rintro e v30 ⟨s22,A22,n22,c22,rfl,hr22,hb⟩
     have dH:=hJ hb
     have oV:=hJ hr22
     clear hb hr22
     go_wp2_with fail
     have iY:=hJ (bt aA.out dH.out)
     have oW:=hJ (PIo.new aZ.out dH.out)
     have oX:=hJ (PIo.new bF.out dH.out)
     have oY:=hJ (BX.new bM.out dH.out)
     have oZ:=hJ (BX.new bD.out dH.out)
     clear hHeld
     refine hK.out _ _ (aT.out _ iY.out) (fun hHeld=>?_)
     clear hK K
     refine tq 8 ?_
     refine tq 9 ?_
     refine tq 10 ?_
     try simp only [PT]
     exact wpAnyH_cast (by kernel_rfl) (eB s19 A19 n19 c19 s20 A20 n20 c20 aL s22 A22 n22 c22 aI v30 iY oW oX oY cJ oV oZ bZ (hJ iP.out))
    have iZ:∀ (s19:Bool) (A19:Option Addr) (n19:Nat) (c19:Nat) (s20:Bool) (A20:Option Addr) (n20:Nat) (c20:Nat) (aL:Nat) (v:World),Hid (Below v13.heap.size v13 v)→Hid (PI v s19 A19 n19 c19 (q / gv))→Hid (PI v s20 A20 n20 c20 (s / gu))→Hid (BX 33 v aL #[.bool s20,.slice A20 n20 c20])→Hid (v13.heap.size≤aL)→F 7 (Array.setIfInBounds (Array.setIfInBounds (Array.setIfInBounds L0 2 true) 5 true) 6 true) (Act.put (Act.put (Act.put a0 (some 43) (.agg #[.bool s19,.slice A19 n19 c19])) (some 46) (.agg #[.bool s20,.slice A20 n20 c20])) (some 47) (.slice (some ⟨aL,0,none⟩) 1 1)) v:=by
     intro s19 A19 n19 c19 s20 A20 n20 c20 aL v aA aZ bF bM cJ
     subst hF ha0 hL0
     simp only [PT] at iW eC ⊢
     have hHeld:=aT.out _ aA.out
     refine ryy [7,11] ?_
     refine .cons rfl (fun K hK=>?_) ?_
     go_simp
     go_at_call 91
     refine (fproduct_any [s / gu] (q / gv) s19 A19 n19 c19 aL 1 v aZ.out aR.out.2.2.2.2.1 (pel_bx bM.out bF.out aR.out.2.2.2.2.2) bM.out.lt rfl (by decide)).mono ?_
     rw [show pvV (q / gv) [s / gu]=outV (q / gv*(s / gu)) from pv_b1 _ _,show pvC (q / gv) [s / gu]=outC (q / gv*(s / gu)) from pc_b1 _ _]
     rintro e v31 ⟨s22,A22,n22,c22,rfl,hr22,hb⟩
     have eD:=hJ hb
     have pA:=hJ hr22
     clear hb hr22
     go_wp2_with fail
     have jA:=hJ (bt aA.out eD.out)
     have pB:=hJ (PIo.new aZ.out eD.out)
     have pC:=hJ (PIo.new bF.out eD.out)
     have pD:=hJ (BX.new bM.out eD.out)
     clear hHeld
     refine hK.out _ _ (aT.out _ jA.out) (fun hHeld=>?_)
     clear hK K
     refine tq 8 ?_
     refine tq 9 ?_
     refine tq 10 ?_
     try simp only [PT]
     exact wpAnyH_cast (by kernel_rfl) (iW s19 A19 n19 c19 s20 A20 n20 c20 aL s22 A22 n22 c22 v31 jA pB pC pD cJ pA)
     refine .cons rfl (fun K hK=>?_) .nil
     go_simp
     have dI:=hJ ((Below.refl v.heap.size v).alloc (Nat.le_refl _) (.cells #[.bool false,.slice none 0 0] 33))
     have fW:=hJ (BX.lit v 33 #[.bool false,.slice none 0 0])
     obtain ⟨v32,hV⟩:=nmz (World.alloc v (.cells #[.bool false,.slice none 0 0] 33))
     obtain ⟨aI,hg⟩:=nmz (v.heap.size)
     rw [hV] at dI fW ⊢
     rw [hg] at fW ⊢
     have pE:=hJ (show v13.heap.size≤aI by rw [←hg]; exact aA.out.size)
     have pF:=hJ (show aL≠aI by have:=bM.out.lt; rw [hg] at this; omega)
     clear hV hg
     have jB:=hJ (bt aA.out dI.out)
     have pG:=hJ (PIo.new aZ.out dI.out)
     have pH:=hJ (PIo.new bF.out dI.out)
     have pI:=hJ (BX.new bM.out dI.out)
     clear hHeld
     refine hK.out _ _ (aT.out _ jB.out) (fun hHeld=>?_)
     clear hK K
     try simp only [PT]
     exact wpAnyH_cast (by kernel_rfl) (eC s19 A19 n19 c19 s20 A20 n20 c20 aL aI v32 jB pG pH pI cJ fW pE (hJ pF.out))
    have eE:∀ (s19:Bool) (A19:Option Addr) (n19:Nat) (c19:Nat) (s20:Bool) (A20:Option Addr) (n20:Nat) (c20:Nat) (aI:Nat) (v:World),Hid (Below v13.heap.size v13 v)→Hid (PI v s19 A19 n19 c19 (q / gv))→Hid (PI v s20 A20 n20 c20 (s / gu))→Hid (BX 33 v aI #[.bool false,.slice none 0 0])→Hid (v13.heap.size≤aI)→F 7 (Array.setIfInBounds (Array.setIfInBounds (Array.setIfInBounds L0 2 true) 5 true) 11 true) (Act.put (Act.put (Act.put a0 (some 43) (.agg #[.bool s19,.slice A19 n19 c19])) (some 46) (.agg #[.bool s20,.slice A20 n20 c20])) (some 12) (.pointer (some ⟨aI,0,none⟩))) v:=by
     intro s19 A19 n19 c19 s20 A20 n20 c20 aI v aA aZ bF bD bZ
     subst hF ha0 hL0
     simp only [PT] at eC ⊢
     have hHeld:=aT.out _ aA.out
     refine ryy [6] ?_
     refine .cons rfl (fun K hK=>?_) .nil
     go_simp
     have dJ:=hJ ((Below.refl v.heap.size v).alloc (Nat.le_refl _) (.cells #[.bool s20,.slice A20 n20 c20] 33))
     have fX:=hJ (BX.lit v 33 #[.bool s20,.slice A20 n20 c20])
     obtain ⟨v33,hV⟩:=nmz (World.alloc v (.cells #[.bool s20,.slice A20 n20 c20] 33))
     obtain ⟨aL,hg⟩:=nmz (v.heap.size)
     rw [hV] at dJ fX ⊢
     rw [hg] at fX ⊢
     have pJ:=hJ (show v13.heap.size≤aL by rw [←hg]; exact aA.out.size)
     have pK:=hJ (show aI≠aL by have:=bD.out.lt; rw [hg] at this; omega)
     clear hV hg
     have jC:=hJ (bt aA.out dJ.out)
     have pL:=hJ (PIo.new aZ.out dJ.out)
     have pM:=hJ (PIo.new bF.out dJ.out)
     have pN:=hJ (BX.new bD.out dJ.out)
     clear hHeld
     refine hK.out _ _ (aT.out _ jC.out) (fun hHeld=>?_)
     clear hK K
     try simp only [PT]
     exact wpAnyH_cast (by kernel_rfl) (eC s19 A19 n19 c19 s20 A20 n20 c20 aL aI v33 jC pL pM fX pJ pN bZ (hJ pK.out.symm))
    have jD:∀ (s19:Bool) (A19:Option Addr) (n19:Nat) (c19:Nat) (s20:Bool) (A20:Option Addr) (n20:Nat) (c20:Nat) (v:World),Hid (Below v13.heap.size v13 v)→Hid (PI v s19 A19 n19 c19 (q / gv))→Hid (PI v s20 A20 n20 c20 (s / gu))→F 8 (Array.setIfInBounds (Array.setIfInBounds L0 2 true) 5 true) (Act.put (Act.put a0 (some 43) (.agg #[.bool s19,.slice A19 n19 c19])) (some 46) (.agg #[.bool s20,.slice A20 n20 c20])) v:=by
     intro s19 A19 n19 c19 s20 A20 n20 c20 v aA aZ bF
     subst hF ha0 hL0
     simp only [PT] at iZ eE ⊢
     have hHeld:=aT.out _ aA.out
     refine ryy [6,11] ?_
     refine .cons rfl (fun K hK=>?_) ?_
     go_simp
     have eF:=hJ ((Below.refl v.heap.size v).alloc (Nat.le_refl _) (.cells #[.bool s20,.slice A20 n20 c20] 33))
     have fY:=hJ (BX.lit v 33 #[.bool s20,.slice A20 n20 c20])
     obtain ⟨v34,hV⟩:=nmz (World.alloc v (.cells #[.bool s20,.slice A20 n20 c20] 33))
     obtain ⟨aL,hg⟩:=nmz (v.heap.size)
     rw [hV] at eF fY ⊢
     rw [hg] at fY ⊢
     have pO:=hJ (show v13.heap.size≤aL by rw [←hg]; exact aA.out.size)
     clear hV hg
     have jE:=hJ (bt aA.out eF.out)
     have pP:=hJ (PIo.new aZ.out eF.out)
     have pQ:=hJ (PIo.new bF.out eF.out)
     clear hHeld
     refine hK.out _ _ (aT.out _ jE.out) (fun hHeld=>?_)
     clear hK K
     try simp only [PT]
     exact wpAnyH_cast (by kernel_rfl) (iZ s19 A19 n19 c19 s20 A20 n20 c20 aL v34 jE pP pQ fY pO)
     refine .cons rfl (fun K hK=>?_) .nil
     go_simp
     have eG:=hJ ((Below.refl v.heap.size v).alloc (Nat.le_refl _) (.cells #[.bool false,.slice none 0 0] 33))
     have fZ:=hJ (BX.lit v 33 #[.bool false,.slice none 0 0])
     obtain ⟨v35,hV⟩:=nmz (World.alloc v (.cells #[.bool false,.slice none 0 0] 33))
     obtain ⟨aI,hg⟩:=nmz (v.heap.size)
     rw [hV] at eG fZ ⊢
     rw [hg] at fZ ⊢
     have pR:=hJ (show v13.heap.size≤aI by rw [←hg]; exact aA.out.size)
     clear hV hg
     have jF:=hJ (bt aA.out eG.out)
     have pS:=hJ (PIo.new aZ.out eG.out)
     have pT:=hJ (PIo.new bF.out eG.out)
     clear hHeld
     refine hK.out _ _ (aT.out _ jF.out) (fun hHeld=>?_)
     clear hK K
     try simp only [PT]
     exact wpAnyH_cast (by kernel_rfl) (eE s19 A19 n19 c19 s20 A20 n20 c20 aI v35 jF pS pT fZ pR)
    have eH:∀ (s19:Bool) (A19:Option Addr) (n19:Nat) (c19:Nat) (aI:Nat) (v:World),Hid (Below v13.heap.size v13 v)→Hid (PI v s19 A19 n19 c19 (q / gv))→Hid (BX 33 v aI #[.bool false,.slice none 0 0])→Hid (v13.heap.size≤aI)→F 8 (Array.setIfInBounds (Array.setIfInBounds L0 2 true) 11 true) (Act.put (Act.put a0 (some 43) (.agg #[.bool s19,.slice A19 n19 c19])) (some 12) (.pointer (some ⟨aI,0,none⟩))) v:=by
     intro s19 A19 n19 c19 aI v aA aZ bD bZ
     subst hF ha0 hL0
     simp only [PT] at eE ⊢
     have hHeld:=aT.out _ aA.out
     refine ryy [5] ?_
     refine .cons rfl (fun K hK=>?_) .nil
     go_simp
     go_at_call 95
     refine (fdivided_any s gu s12 s13 A12 A13 n12 c12 n13 c13 v (PIo.new dZ.out aA.out) (PIo.new eA.out aA.out) (Nat.le_trans (plim (PIo.new dZ.out aA.out) aJ.out.2.2.2.2.2) (by decide)) (Nat.le_trans (plim (PIo.new eA.out aA.out) aR.out.1.2) (by decide)) aR.out.1.1).mono ?_
     rintro e v36 ⟨s20,A20,n20,c20,rfl,hr20,hb⟩
     have gA:=hJ hb
     have pU:=hJ hr20
     clear hb hr20
     go_wp2_with fail
     have jG:=hJ (bt aA.out gA.out)
     have pV:=hJ (PIo.new aZ.out gA.out)
     have pW:=hJ (BX.new bD.out gA.out)
     clear hHeld
     refine hK.out _ _ (aT.out _ jG.out) (fun hHeld=>?_)
     clear hK K
     try simp only [PT]
     exact wpAnyH_cast (by kernel_rfl) (eE s19 A19 n19 c19 s20 A20 n20 c20 aI v36 jG pV pU pW bZ)
    have jH:∀ (s19:Bool) (A19:Option Addr) (n19:Nat) (c19:Nat) (v:World),Hid (Below v13.heap.size v13 v)→Hid (PI v s19 A19 n19 c19 (q / gv))→F 9 (Array.setIfInBounds L0 2 true) (Act.put a0 (some 43) (.agg #[.bool s19,.slice A19 n19 c19])) v:=by
     intro s19 A19 n19 c19 v aA aZ
     subst hF ha0 hL0
     simp only [PT] at jD eH ⊢
     have hHeld:=aT.out _ aA.out
     refine ryy [5,11] ?_
     refine .cons rfl (fun K hK=>?_) ?_
     go_simp
     go_at_call 95
     refine (fdivided_any s gu s12 s13 A12 A13 n12 c12 n13 c13 v (PIo.new dZ.out aA.out) (PIo.new eA.out aA.out) (Nat.le_trans (plim (PIo.new dZ.out aA.out) aJ.out.2.2.2.2.2) (by decide)) (Nat.le_trans (plim (PIo.new eA.out aA.out) aR.out.1.2) (by decide)) aR.out.1.1).mono ?_
     rintro e v37 ⟨s20,A20,n20,c20,rfl,hr20,hb⟩
     have jI:=hJ hb
     have pX:=hJ hr20
     clear hb hr20
     go_wp2_with fail
     have jJ:=hJ (bt aA.out jI.out)
     have pY:=hJ (PIo.new aZ.out jI.out)
     clear hHeld
     refine hK.out _ _ (aT.out _ jJ.out) (fun hHeld=>?_)
     clear hK K
     try simp only [PT]
     exact wpAnyH_cast (by kernel_rfl) (jD s19 A19 n19 c19 s20 A20 n20 c20 v37 jJ pY pX)
     refine .cons rfl (fun K hK=>?_) .nil
     go_simp
     have gB:=hJ ((Below.refl v.heap.size v).alloc (Nat.le_refl _) (.cells #[.bool false,.slice none 0 0] 33))
     have gC:=hJ (BX.lit v 33 #[.bool false,.slice none 0 0])
     obtain ⟨v38,hV⟩:=nmz (World.alloc v (.cells #[.bool false,.slice none 0 0] 33))
     obtain ⟨aI,hg⟩:=nmz (v.heap.size)
     rw [hV] at gB gC ⊢
     rw [hg] at gC ⊢
     have pZ:=hJ (show v13.heap.size≤aI by rw [←hg]; exact aA.out.size)
     clear hV hg
     have jK:=hJ (bt aA.out gB.out)
     have qA:=hJ (PIo.new aZ.out gB.out)
     clear hHeld
     refine hK.out _ _ (aT.out _ jK.out) (fun hHeld=>?_)
     clear hK K
     try simp only [PT]
     exact wpAnyH_cast (by kernel_rfl) (eH s19 A19 n19 c19 aI v38 jK qA gC pZ)
    have jL:∀ (aI:Nat) (v:World),Hid (Below v13.heap.size v13 v)→Hid (BX 33 v aI #[.bool false,.slice none 0 0])→Hid (v13.heap.size≤aI)→F 9 (Array.setIfInBounds L0 11 true) (Act.put a0 (some 12) (.pointer (some ⟨aI,0,none⟩))) v:=by
     intro aI v aA bD bZ
     subst hF ha0 hL0
     simp only [PT] at eH ⊢
     have hHeld:=aT.out _ aA.out
     refine ryy [2] ?_
     refine .cons rfl (fun K hK=>?_) .nil
     go_simp
     go_at_call 95
     refine (fdivided_any q gv s11 s14 A11 A14 n11 c11 n14 c14 v (PIo.new dX.out aA.out) (PIo.new dY.out aA.out) (Nat.le_trans (plim (PIo.new dX.out aA.out) aJ.out.2.2.2.1) (by decide)) (Nat.le_trans (plim (PIo.new dY.out aA.out) aR.out.2.1.2) (by decide)) aR.out.2.1.1).mono ?_
     rintro e v39 ⟨s19,A19,n19,c19,rfl,hr19,hb⟩
     have jM:=hJ hb
     have qB:=hJ hr19
     clear hb hr19
     go_wp2_with fail
     have jN:=hJ (bt aA.out jM.out)
     have qC:=hJ (BX.new bD.out jM.out)
     clear hHeld
     refine hK.out _ _ (aT.out _ jN.out) (fun hHeld=>?_)
     clear hK K
     try simp only [PT]
     exact wpAnyH_cast (by kernel_rfl) (eH s19 A19 n19 c19 aI v39 jN qB qC bZ)
    subst hF ha0 hL0
    simp only [PT] at jH jL
    refine ryy [2,11] ?_
    refine .cons rfl (fun K hK=>?_) ?_
    go_simp
    go_at_call 95
    refine (fdivided_any q gv s11 s14 A11 A14 n11 c11 n14 c14 v16 (PIo.new dX.out cI.out) (PIo.new dY.out cI.out) (Nat.le_trans (plim (PIo.new dX.out cI.out) aJ.out.2.2.2.1) (by decide)) (Nat.le_trans (plim (PIo.new dY.out cI.out) aR.out.2.1.2) (by decide)) aR.out.2.1.1).mono ?_
    rintro e v40 ⟨s19,A19,n19,c19,rfl,hr19,hb⟩
    have qD:=hJ hb
    have qE:=hJ hr19
    clear hb hr19
    go_wp2_with fail
    have jO:=hJ (bt cI.out qD.out)
    clear hHeld
    refine hK.out _ _ (aT.out _ jO.out) (fun hHeld=>?_)
    clear hK K
    try simp only [PT]
    exact wpAnyH_cast (by kernel_rfl) (jH s19 A19 n19 c19 v40 jO qE)
    refine .cons rfl (fun K hK=>?_) .nil
    go_simp
    have jP:=hJ ((Below.refl v16.heap.size v16).alloc (Nat.le_refl _) (.cells #[.bool false,.slice none 0 0] 33))
    have gD:=hJ (BX.lit v16 33 #[.bool false,.slice none 0 0])
    obtain ⟨v41,hV⟩:=nmz (World.alloc v16 (.cells #[.bool false,.slice none 0 0] 33))
    obtain ⟨aI,hg⟩:=nmz (v16.heap.size)
    rw [hV] at jP gD ⊢
    rw [hg] at gD ⊢
    have qF:=hJ (show v13.heap.size≤aI by rw [←hg]; exact cI.out.size)
    clear hV hg
    have jQ:=hJ (bt cI.out jP.out)
    clear hHeld
    refine hK.out _ _ (aT.out _ jQ.out) (fun hHeld=>?_)
    clear hK K
    try simp only [PT]
    exact wpAnyH_cast (by kernel_rfl) (jL aI v41 jQ gD qF)
   have jR:∀ (s15:Bool) (A15:Option Addr) (n15:Nat) (c15:Nat) (s16:Bool) (A16:Option Addr) (n16:Nat) (c16:Nat) (aK:Nat) (s18:Bool) (A18:Option Addr) (n18:Nat) (c18:Nat) (v:World),Hid (Below v9.heap.size v9 v)→Hid (PI v s15 A15 n15 c15 (p / gu))→Hid (PI v s16 A16 n16 c16 (r / gv))→Hid (BX 33 v aK #[.bool s16,.slice A16 n16 c16])→Hid (v9.heap.size≤aK)→Hid (PI v s18 A18 n18 c18 (outV (p / gu*(r / gv))))→F 3 (Array.setIfInBounds (Array.setIfInBounds (Array.setIfInBounds (Array.setIfInBounds (Array.setIfInBounds (Array.setIfInBounds (Array.setIfInBounds L0 3 true) 7 true) 8 true) 9 true) 10 true) 11 true) 12 true) (Act.put (Act.put (Act.put (Act.put (Act.put (Act.put (Act.put a0 (some 31) (.agg #[.bool s15,.slice A15 n15 c15])) (some 35) (.agg #[.bool s16,.slice A16 n16 c16])) (some 36) (.slice (some ⟨aK,0,none⟩) 1 1)) (some 37) (.tuple #[.agg #[.bool s18,.slice A18 n18 c18],.int .i64 (outC (p / gu*(r / gv)))])) (some 27) (.tuple #[.agg #[.bool s18,.slice A18 n18 c18],.int .i64 (outC (p / gu*(r / gv)))])) (some 38) (.agg #[.bool s18,.slice A18 n18 c18])) (some 39) (.int .i64 (outC (p / gu*(r / gv))))) v:=by
    intro s15 A15 n15 c15 s16 A16 n16 c16 aK s18 A18 n18 c18 v aA aY bE bL cH fO
    subst hF ha0 hL0
    simp only [PT] at dU ⊢
    have hHeld:=aS.out _ aA.out
    refine ryy [13] ?_
    refine .cons rfl (fun K hK=>?_) .nil
    go_simp
    have cS:=hJ ((Below.refl v.heap.size v).alloc (Nat.le_refl _) (.cells #[.bool false,.slice none 0 0] 33))
    have gE:=hJ (BX.lit v 33 #[.bool false,.slice none 0 0])
    obtain ⟨v42,hV⟩:=nmz (World.alloc v (.cells #[.bool false,.slice none 0 0] 33))
    obtain ⟨aH,hg⟩:=nmz (v.heap.size)
    rw [hV] at cS gE ⊢
    rw [hg] at gE ⊢
    have qG:=hJ (show v9.heap.size≤aH by rw [←hg]; exact aA.out.size)
    have qH:=hJ (show aK≠aH by have:=bL.out.lt; rw [hg] at this; omega)
    clear hV hg
    have jS:=hJ (bt aA.out cS.out)
    have qI:=hJ (PIo.new aY.out cS.out)
    have qJ:=hJ (PIo.new bE.out cS.out)
    have qK:=hJ (PIo.new fO.out cS.out)
    have qL:=hJ (BX.new bL.out cS.out)
    clear hHeld
    refine hK.out _ _ (aS.out _ jS.out) (fun hHeld=>?_)
    clear hK K
    try simp only [PT]
    exact wpAnyH_cast (by kernel_rfl) (dU s15 A15 n15 c15 s16 A16 n16 c16 aK s18 A18 n18 c18 aH v42 jS qI qJ qL cH qK gE qG (hJ qH.out))
   have eI:∀ (s15:Bool) (A15:Option Addr) (n15:Nat) (c15:Nat) (s16:Bool) (A16:Option Addr) (n16:Nat) (c16:Nat) (aK:Nat) (aH:Nat) (v:World),Hid (Below v9.heap.size v9 v)→Hid (PI v s15 A15 n15 c15 (p / gu))→Hid (PI v s16 A16 n16 c16 (r / gv))→Hid (BX 33 v aK #[.bool s16,.slice A16 n16 c16])→Hid (v9.heap.size≤aK)→Hid (BX 33 v aH #[.bool false,.slice none 0 0])→Hid (v9.heap.size≤aH)→Hid (aK≠aH)→F 6 (Array.setIfInBounds (Array.setIfInBounds (Array.setIfInBounds (Array.setIfInBounds L0 3 true) 7 true) 8 true) 13 true) (Act.put (Act.put (Act.put (Act.put a0 (some 31) (.agg #[.bool s15,.slice A15 n15 c15])) (some 35) (.agg #[.bool s16,.slice A16 n16 c16])) (some 36) (.slice (some ⟨aK,0,none⟩) 1 1)) (some 10) (.pointer (some ⟨aH,0,none⟩))) v:=by
    intro s15 A15 n15 c15 s16 A16 n16 c16 aK aH v aA aY bE bL cH bC bY iK
    subst hF ha0 hL0
    simp only [PT] at dU ⊢
    have hHeld:=aS.out _ aA.out
    refine ryy [9] ?_
    refine .cons rfl (fun K hK=>?_) .nil
    go_simp
    go_at_call 91
    refine (fproduct_any [r / gv] (p / gu) s15 A15 n15 c15 aK 1 v aY.out aR.out.2.2.1 (pel_bx bL.out bE.out aR.out.2.2.2.1) bL.out.lt rfl (by decide)).mono ?_
    rw [show pvV (p / gu) [r / gv]=outV (p / gu*(r / gv)) from pv_b1 _ _,show pvC (p / gu) [r / gv]=outC (p / gu*(r / gv)) from pc_b1 _ _]
    rintro e v43 ⟨s18,A18,n18,c18,rfl,hr18,hb⟩
    have dK:=hJ hb
    have qM:=hJ hr18
    clear hb hr18
    go_wp2_with fail
    have jT:=hJ (bt aA.out dK.out)
    have qN:=hJ (PIo.new aY.out dK.out)
    have qO:=hJ (PIo.new bE.out dK.out)
    have qP:=hJ (BX.new bL.out dK.out)
    have qQ:=hJ (BX.new bC.out dK.out)
    clear hHeld
    refine hK.out _ _ (aS.out _ jT.out) (fun hHeld=>?_)
    clear hK K
    refine tq 10 ?_
    refine tq 11 ?_
    refine tq 12 ?_
    try simp only [PT]
    exact wpAnyH_cast (by kernel_rfl) (dU s15 A15 n15 c15 s16 A16 n16 c16 aK s18 A18 n18 c18 aH v43 jT qN qO qP cH qM qQ bY (hJ iK.out))
   have jU:∀ (s15:Bool) (A15:Option Addr) (n15:Nat) (c15:Nat) (s16:Bool) (A16:Option Addr) (n16:Nat) (c16:Nat) (aK:Nat) (v:World),Hid (Below v9.heap.size v9 v)→Hid (PI v s15 A15 n15 c15 (p / gu))→Hid (PI v s16 A16 n16 c16 (r / gv))→Hid (BX 33 v aK #[.bool s16,.slice A16 n16 c16])→Hid (v9.heap.size≤aK)→F 7 (Array.setIfInBounds (Array.setIfInBounds (Array.setIfInBounds L0 3 true) 7 true) 8 true) (Act.put (Act.put (Act.put a0 (some 31) (.agg #[.bool s15,.slice A15 n15 c15])) (some 35) (.agg #[.bool s16,.slice A16 n16 c16])) (some 36) (.slice (some ⟨aK,0,none⟩) 1 1)) v:=by
    intro s15 A15 n15 c15 s16 A16 n16 c16 aK v aA aY bE bL cH
    subst hF ha0 hL0
    simp only [PT] at jR eI ⊢
    have hHeld:=aS.out _ aA.out
    refine ryy [9,13] ?_
    refine .cons rfl (fun K hK=>?_) ?_
    go_simp
    go_at_call 91
    refine (fproduct_any [r / gv] (p / gu) s15 A15 n15 c15 aK 1 v aY.out aR.out.2.2.1 (pel_bx bL.out bE.out aR.out.2.2.2.1) bL.out.lt rfl (by decide)).mono ?_
    rw [show pvV (p / gu) [r / gv]=outV (p / gu*(r / gv)) from pv_b1 _ _,show pvC (p / gu) [r / gv]=outC (p / gu*(r / gv)) from pc_b1 _ _]
    rintro e v44 ⟨s18,A18,n18,c18,rfl,hr18,hb⟩
    have eJ:=hJ hb
    have qR:=hJ hr18
    clear hb hr18
    go_wp2_with fail
    have jV:=hJ (bt aA.out eJ.out)
    have qS:=hJ (PIo.new aY.out eJ.out)
    have qT:=hJ (PIo.new bE.out eJ.out)
    have qU:=hJ (BX.new bL.out eJ.out)
    clear hHeld
    refine hK.out _ _ (aS.out _ jV.out) (fun hHeld=>?_)
    clear hK K
    refine tq 10 ?_
    refine tq 11 ?_
    refine tq 12 ?_
    try simp only [PT]
    exact wpAnyH_cast (by kernel_rfl) (jR s15 A15 n15 c15 s16 A16 n16 c16 aK s18 A18 n18 c18 v44 jV qS qT qU cH qR)
    refine .cons rfl (fun K hK=>?_) .nil
    go_simp
    have dL:=hJ ((Below.refl v.heap.size v).alloc (Nat.le_refl _) (.cells #[.bool false,.slice none 0 0] 33))
    have gF:=hJ (BX.lit v 33 #[.bool false,.slice none 0 0])
    obtain ⟨v45,hV⟩:=nmz (World.alloc v (.cells #[.bool false,.slice none 0 0] 33))
    obtain ⟨aH,hg⟩:=nmz (v.heap.size)
    rw [hV] at dL gF ⊢
    rw [hg] at gF ⊢
    have qV:=hJ (show v9.heap.size≤aH by rw [←hg]; exact aA.out.size)
    have qW:=hJ (show aK≠aH by have:=bL.out.lt; rw [hg] at this; omega)
    clear hV hg
    have jW:=hJ (bt aA.out dL.out)
    have qX:=hJ (PIo.new aY.out dL.out)
    have qY:=hJ (PIo.new bE.out dL.out)
    have qZ:=hJ (BX.new bL.out dL.out)
    clear hHeld
    refine hK.out _ _ (aS.out _ jW.out) (fun hHeld=>?_)
    clear hK K
    try simp only [PT]
    exact wpAnyH_cast (by kernel_rfl) (eI s15 A15 n15 c15 s16 A16 n16 c16 aK aH v45 jW qX qY qZ cH gF qV (hJ qW.out))
   have eK:∀ (s15:Bool) (A15:Option Addr) (n15:Nat) (c15:Nat) (s16:Bool) (A16:Option Addr) (n16:Nat) (c16:Nat) (aH:Nat) (v:World),Hid (Below v9.heap.size v9 v)→Hid (PI v s15 A15 n15 c15 (p / gu))→Hid (PI v s16 A16 n16 c16 (r / gv))→Hid (BX 33 v aH #[.bool false,.slice none 0 0])→Hid (v9.heap.size≤aH)→F 7 (Array.setIfInBounds (Array.setIfInBounds (Array.setIfInBounds L0 3 true) 7 true) 13 true) (Act.put (Act.put (Act.put a0 (some 31) (.agg #[.bool s15,.slice A15 n15 c15])) (some 35) (.agg #[.bool s16,.slice A16 n16 c16])) (some 10) (.pointer (some ⟨aH,0,none⟩))) v:=by
    intro s15 A15 n15 c15 s16 A16 n16 c16 aH v aA aY bE bC bY
    subst hF ha0 hL0
    simp only [PT] at eI ⊢
    have hHeld:=aS.out _ aA.out
    refine ryy [8] ?_
    refine .cons rfl (fun K hK=>?_) .nil
    go_simp
    have dM:=hJ ((Below.refl v.heap.size v).alloc (Nat.le_refl _) (.cells #[.bool s16,.slice A16 n16 c16] 33))
    have gG:=hJ (BX.lit v 33 #[.bool s16,.slice A16 n16 c16])
    obtain ⟨v46,hV⟩:=nmz (World.alloc v (.cells #[.bool s16,.slice A16 n16 c16] 33))
    obtain ⟨aK,hg⟩:=nmz (v.heap.size)
    rw [hV] at dM gG ⊢
    rw [hg] at gG ⊢
    have rA:=hJ (show v9.heap.size≤aK by rw [←hg]; exact aA.out.size)
    have rB:=hJ (show aH≠aK by have:=bC.out.lt; rw [hg] at this; omega)
    clear hV hg
    have jX:=hJ (bt aA.out dM.out)
    have rC:=hJ (PIo.new aY.out dM.out)
    have rE:=hJ (PIo.new bE.out dM.out)
    have rF:=hJ (BX.new bC.out dM.out)
    clear hHeld
    refine hK.out _ _ (aS.out _ jX.out) (fun hHeld=>?_)
    clear hK K
    try simp only [PT]
    exact wpAnyH_cast (by kernel_rfl) (eI s15 A15 n15 c15 s16 A16 n16 c16 aK aH v46 jX rC rE gG rA rF bY (hJ rB.out.symm))
   have jY:∀ (s15:Bool) (A15:Option Addr) (n15:Nat) (c15:Nat) (s16:Bool) (A16:Option Addr) (n16:Nat) (c16:Nat) (v:World),Hid (Below v9.heap.size v9 v)→Hid (PI v s15 A15 n15 c15 (p / gu))→Hid (PI v s16 A16 n16 c16 (r / gv))→F 8 (Array.setIfInBounds (Array.setIfInBounds L0 3 true) 7 true) (Act.put (Act.put a0 (some 31) (.agg #[.bool s15,.slice A15 n15 c15])) (some 35) (.agg #[.bool s16,.slice A16 n16 c16])) v:=by
    intro s15 A15 n15 c15 s16 A16 n16 c16 v aA aY bE
    subst hF ha0 hL0
    simp only [PT] at jU eK ⊢
    have hHeld:=aS.out _ aA.out
    refine ryy [8,13] ?_
    refine .cons rfl (fun K hK=>?_) ?_
    go_simp
    have eL:=hJ ((Below.refl v.heap.size v).alloc (Nat.le_refl _) (.cells #[.bool s16,.slice A16 n16 c16] 33))
    have gH:=hJ (BX.lit v 33 #[.bool s16,.slice A16 n16 c16])
    obtain ⟨v47,hV⟩:=nmz (World.alloc v (.cells #[.bool s16,.slice A16 n16 c16] 33))
    obtain ⟨aK,hg⟩:=nmz (v.heap.size)
    rw [hV] at eL gH ⊢
    rw [hg] at gH ⊢
    have rG:=hJ (show v9.heap.size≤aK by rw [←hg]; exact aA.out.size)
    clear hV hg
    have jZ:=hJ (bt aA.out eL.out)
    have rH:=hJ (PIo.new aY.out eL.out)
    have rI:=hJ (PIo.new bE.out eL.out)
    clear hHeld
    refine hK.out _ _ (aS.out _ jZ.out) (fun hHeld=>?_)
    clear hK K
    try simp only [PT]
    exact wpAnyH_cast (by kernel_rfl) (jU s15 A15 n15 c15 s16 A16 n16 c16 aK v47 jZ rH rI gH rG)
    refine .cons rfl (fun K hK=>?_) .nil
    go_simp
    have eM:=hJ ((Below.refl v.heap.size v).alloc (Nat.le_refl _) (.cells #[.bool false,.slice none 0 0] 33))
    have gI:=hJ (BX.lit v 33 #[.bool false,.slice none 0 0])
    obtain ⟨v48,hV⟩:=nmz (World.alloc v (.cells #[.bool false,.slice none 0 0] 33))
    obtain ⟨aH,hg⟩:=nmz (v.heap.size)
    rw [hV] at eM gI ⊢
    rw [hg] at gI ⊢
    have rJ:=hJ (show v9.heap.size≤aH by rw [←hg]; exact aA.out.size)
    clear hV hg
    have kA:=hJ (bt aA.out eM.out)
    have rK:=hJ (PIo.new aY.out eM.out)
    have rL:=hJ (PIo.new bE.out eM.out)
    clear hHeld
    refine hK.out _ _ (aS.out _ kA.out) (fun hHeld=>?_)
    clear hK K
    try simp only [PT]
    exact wpAnyH_cast (by kernel_rfl) (eK s15 A15 n15 c15 s16 A16 n16 c16 aH v48 kA rK rL gI rJ)
   have eN:∀ (s15:Bool) (A15:Option Addr) (n15:Nat) (c15:Nat) (aH:Nat) (v:World),Hid (Below v9.heap.size v9 v)→Hid (PI v s15 A15 n15 c15 (p / gu))→Hid (BX 33 v aH #[.bool false,.slice none 0 0])→Hid (v9.heap.size≤aH)→F 8 (Array.setIfInBounds (Array.setIfInBounds L0 3 true) 13 true) (Act.put (Act.put a0 (some 31) (.agg #[.bool s15,.slice A15 n15 c15])) (some 10) (.pointer (some ⟨aH,0,none⟩))) v:=by
    intro s15 A15 n15 c15 aH v aA aY bC bY
    subst hF ha0 hL0
    simp only [PT] at eK ⊢
    have hHeld:=aS.out _ aA.out
    refine ryy [7] ?_
    refine .cons rfl (fun K hK=>?_) .nil
    go_simp
    go_at_call 95
    refine (fdivided_any r gv sd s14 Ad A14 nd cd n14 c14 v (PF.new dT.out aA.out).1 (PIo.new dG.out aA.out) (Nat.le_trans (plim (PF.new dT.out aA.out).1 aJ.out.2.2.2.2.1) (by decide)) (Nat.le_trans (plim (PIo.new dG.out aA.out) aR.out.2.1.2) (by decide)) aR.out.2.1.1).mono ?_
    rintro e v49 ⟨s16,A16,n16,c16,rfl,hr16,hb⟩
    have gJ:=hJ hb
    have rM:=hJ hr16
    clear hb hr16
    go_wp2_with fail
    have kB:=hJ (bt aA.out gJ.out)
    have rO:=hJ (PIo.new aY.out gJ.out)
    have rP:=hJ (BX.new bC.out gJ.out)
    clear hHeld
    refine hK.out _ _ (aS.out _ kB.out) (fun hHeld=>?_)
    clear hK K
    try simp only [PT]
    exact wpAnyH_cast (by kernel_rfl) (eK s15 A15 n15 c15 s16 A16 n16 c16 aH v49 kB rO rM rP bY)
   have kC:∀ (s15:Bool) (A15:Option Addr) (n15:Nat) (c15:Nat) (v:World),Hid (Below v9.heap.size v9 v)→Hid (PI v s15 A15 n15 c15 (p / gu))→F 9 (Array.setIfInBounds L0 3 true) (Act.put a0 (some 31) (.agg #[.bool s15,.slice A15 n15 c15])) v:=by
    intro s15 A15 n15 c15 v aA aY
    subst hF ha0 hL0
    simp only [PT] at jY eN ⊢
    have hHeld:=aS.out _ aA.out
    refine ryy [7,13] ?_
    refine .cons rfl (fun K hK=>?_) ?_
    go_simp
    go_at_call 95
    refine (fdivided_any r gv sd s14 Ad A14 nd cd n14 c14 v (PF.new dT.out aA.out).1 (PIo.new dG.out aA.out) (Nat.le_trans (plim (PF.new dT.out aA.out).1 aJ.out.2.2.2.2.1) (by decide)) (Nat.le_trans (plim (PIo.new dG.out aA.out) aR.out.2.1.2) (by decide)) aR.out.2.1.1).mono ?_
    rintro e v50 ⟨s16,A16,n16,c16,rfl,hr16,hb⟩
    have kD:=hJ hb
    have rQ:=hJ hr16
    clear hb hr16
    go_wp2_with fail
    have kE:=hJ (bt aA.out kD.out)
    have rR:=hJ (PIo.new aY.out kD.out)
    clear hHeld
    refine hK.out _ _ (aS.out _ kE.out) (fun hHeld=>?_)
    clear hK K
    try simp only [PT]
    exact wpAnyH_cast (by kernel_rfl) (jY s15 A15 n15 c15 s16 A16 n16 c16 v50 kE rR rQ)
    refine .cons rfl (fun K hK=>?_) .nil
    go_simp
    have gK:=hJ ((Below.refl v.heap.size v).alloc (Nat.le_refl _) (.cells #[.bool false,.slice none 0 0] 33))
    have gL:=hJ (BX.lit v 33 #[.bool false,.slice none 0 0])
    obtain ⟨v51,hV⟩:=nmz (World.alloc v (.cells #[.bool false,.slice none 0 0] 33))
    obtain ⟨aH,hg⟩:=nmz (v.heap.size)
    rw [hV] at gK gL ⊢
    rw [hg] at gL ⊢
    have rS:=hJ (show v9.heap.size≤aH by rw [←hg]; exact aA.out.size)
    clear hV hg
    have kF:=hJ (bt aA.out gK.out)
    have rT:=hJ (PIo.new aY.out gK.out)
    clear hHeld
    refine hK.out _ _ (aS.out _ kF.out) (fun hHeld=>?_)
    clear hK K
    try simp only [PT]
    exact wpAnyH_cast (by kernel_rfl) (eN s15 A15 n15 c15 aH v51 kF rT gL rS)
   have kG:∀ (aH:Nat) (v:World),Hid (Below v9.heap.size v9 v)→Hid (BX 33 v aH #[.bool false,.slice none 0 0])→Hid (v9.heap.size≤aH)→F 9 (Array.setIfInBounds L0 13 true) (Act.put a0 (some 10) (.pointer (some ⟨aH,0,none⟩))) v:=by
    intro aH v aA bC bY
    subst hF ha0 hL0
    simp only [PT] at eN ⊢
    have hHeld:=aS.out _ aA.out
    refine ryy [3] ?_
    refine .cons rfl (fun K hK=>?_) .nil
    go_simp
    go_at_call 95
    refine (fdivided_any p gu sa s13 Aa A13 na ca n13 c13 v (PF.new dS.out aA.out).1 (PIo.new dE.out aA.out) (Nat.le_trans (plim (PF.new dS.out aA.out).1 aJ.out.2.2.1) (by decide)) (Nat.le_trans (plim (PIo.new dE.out aA.out) aR.out.1.2) (by decide)) aR.out.1.1).mono ?_
    rintro e v52 ⟨s15,A15,n15,c15,rfl,hr15,hb⟩
    have kH:=hJ hb
    have rU:=hJ hr15
    clear hb hr15
    go_wp2_with fail
    have kI:=hJ (bt aA.out kH.out)
    have rV:=hJ (BX.new bC.out kH.out)
    clear hHeld
    refine hK.out _ _ (aS.out _ kI.out) (fun hHeld=>?_)
    clear hK K
    try simp only [PT]
    exact wpAnyH_cast (by kernel_rfl) (eN s15 A15 n15 c15 aH v52 kI rU rV bY)
   subst hF ha0 hL0
   simp only [PT] at kC kG
   refine ryy [3,13] ?_
   refine .cons rfl (fun K hK=>?_) ?_
   go_simp
   go_at_call 95
   refine (fdivided_any p gu sa s13 Aa A13 na ca n13 c13 v12 (PF.new dS.out cG.out).1 (PIo.new dE.out cG.out) (Nat.le_trans (plim (PF.new dS.out cG.out).1 aJ.out.2.2.1) (by decide)) (Nat.le_trans (plim (PIo.new dE.out cG.out) aR.out.1.2) (by decide)) aR.out.1.1).mono ?_
   rintro e v53 ⟨s15,A15,n15,c15,rfl,hr15,hb⟩
   have rW:=hJ hb
   have rZ:=hJ hr15
   clear hb hr15
   go_wp2_with fail
   have kJ:=hJ (bt cG.out rW.out)
   clear hHeld
   refine hK.out _ _ (aS.out _ kJ.out) (fun hHeld=>?_)
   clear hK K
   try simp only [PT]
   exact wpAnyH_cast (by kernel_rfl) (kC s15 A15 n15 c15 v53 kJ rZ)
   refine .cons rfl (fun K hK=>?_) .nil
   go_simp
   have kK:=hJ ((Below.refl v12.heap.size v12).alloc (Nat.le_refl _) (.cells #[.bool false,.slice none 0 0] 33))
   have gM:=hJ (BX.lit v12 33 #[.bool false,.slice none 0 0])
   obtain ⟨v54,hV⟩:=nmz (World.alloc v12 (.cells #[.bool false,.slice none 0 0] 33))
   obtain ⟨aH,hg⟩:=nmz (v12.heap.size)
   rw [hV] at kK gM ⊢
   rw [hg] at gM ⊢
   have sA:=hJ (show v9.heap.size≤aH by rw [←hg]; exact cG.out.size)
   clear hV hg
   have kL:=hJ (bt cG.out kK.out)
   clear hHeld
   refine hK.out _ _ (aS.out _ kL.out) (fun hHeld=>?_)
   clear hK K
   try simp only [PT]
   exact wpAnyH_cast (by kernel_rfl) (kG aH v54 kL gM sA)
  have eO:∀ (s13:Bool) (A13:Option Addr) (n13:Nat) (c13:Nat) (s14:Bool) (A14:Option Addr) (n14:Nat) (c14:Nat) (aD:Nat) (v:World),Hid (Below v4.heap.size v4 v)→Hid (PI v s13 A13 n13 c13 gu)→Hid (PI v s14 A14 n14 c14 gv)→Hid (BX 33 v aD #[.bool false,.slice none 0 0])→Hid (v4.heap.size≤aD)→F 3 (Array.setIfInBounds (Array.setIfInBounds (Array.setIfInBounds L0 3 true) 7 true) 8 true) (Act.put (Act.put (Act.put a0 (some 22) (.agg #[.bool s13,.slice A13 n13 c13])) (some 26) (.agg #[.bool s14,.slice A14 n14 c14])) (some 8) (.pointer (some ⟨aD,0,none⟩))) v:=by
   intro s13 A13 n13 c13 s14 A14 n14 c14 aD v aA aX cD aV bJ
   subst hF ha0 hL0
   simp only [PT] at cO ⊢
   have hHeld:=aO.out _ aA.out
   refine ryy [9] ?_
   refine .cons rfl (fun K hK=>?_) .nil
   go_simp
   have dN:=hJ ((Below.refl v.heap.size v).alloc (Nat.le_refl _) (.cells #[.bool false,.slice none 0 0] 33))
   have gN:=hJ (BX.lit v 33 #[.bool false,.slice none 0 0])
   obtain ⟨v55,hV⟩:=nmz (World.alloc v (.cells #[.bool false,.slice none 0 0] 33))
   obtain ⟨aG,hg⟩:=nmz (v.heap.size)
   rw [hV] at dN gN ⊢
   rw [hg] at gN ⊢
   have sB:=hJ (show v4.heap.size≤aG by rw [←hg]; exact aA.out.size)
   have sC:=hJ (show aD≠aG by have:=aV.out.lt; rw [hg] at this; omega)
   clear hV hg
   have kM:=hJ (bt aA.out dN.out)
   have sD:=hJ (PIo.new aX.out dN.out)
   have sE:=hJ (PIo.new cD.out dN.out)
   have sF:=hJ (BX.new aV.out dN.out)
   clear hHeld
   refine hK.out _ _ (aO.out _ kM.out) (fun hHeld=>?_)
   clear hK K
   try simp only [PT]
   exact wpAnyH_cast (by kernel_rfl) (cO s13 A13 n13 c13 s14 A14 n14 c14 aD aG v55 kM sD sE sF bJ gN sB (hJ sC.out))
  have eP:∀ (s13:Bool) (A13:Option Addr) (n13:Nat) (c13:Nat) (s14:Bool) (A14:Option Addr) (n14:Nat) (c14:Nat) (aG:Nat) (v:World),Hid (Below v4.heap.size v4 v)→Hid (PI v s13 A13 n13 c13 gu)→Hid (PI v s14 A14 n14 c14 gv)→Hid (BX 33 v aG #[.bool false,.slice none 0 0])→Hid (v4.heap.size≤aG)→F 3 (Array.setIfInBounds (Array.setIfInBounds (Array.setIfInBounds L0 3 true) 7 true) 9 true) (Act.put (Act.put (Act.put a0 (some 22) (.agg #[.bool s13,.slice A13 n13 c13])) (some 26) (.agg #[.bool s14,.slice A14 n14 c14])) (some 9) (.pointer (some ⟨aG,0,none⟩))) v:=by
   intro s13 A13 n13 c13 s14 A14 n14 c14 aG v aA aX cD bB bK
   subst hF ha0 hL0
   simp only [PT] at cO ⊢
   have hHeld:=aO.out _ aA.out
   refine ryy [8] ?_
   refine .cons rfl (fun K hK=>?_) .nil
   go_simp
   have dO:=hJ ((Below.refl v.heap.size v).alloc (Nat.le_refl _) (.cells #[.bool false,.slice none 0 0] 33))
   have gO:=hJ (BX.lit v 33 #[.bool false,.slice none 0 0])
   obtain ⟨v56,hV⟩:=nmz (World.alloc v (.cells #[.bool false,.slice none 0 0] 33))
   obtain ⟨aD,hg⟩:=nmz (v.heap.size)
   rw [hV] at dO gO ⊢
   rw [hg] at gO ⊢
   have sG:=hJ (show v4.heap.size≤aD by rw [←hg]; exact aA.out.size)
   have sH:=hJ (show aG≠aD by have:=bB.out.lt; rw [hg] at this; omega)
   clear hV hg
   have kN:=hJ (bt aA.out dO.out)
   have sI:=hJ (PIo.new aX.out dO.out)
   have sJ:=hJ (PIo.new cD.out dO.out)
   have sK:=hJ (BX.new bB.out dO.out)
   clear hHeld
   refine hK.out _ _ (aO.out _ kN.out) (fun hHeld=>?_)
   clear hK K
   try simp only [PT]
   exact wpAnyH_cast (by kernel_rfl) (cO s13 A13 n13 c13 s14 A14 n14 c14 aD aG v56 kN sI sJ gO sG sK bK (hJ sH.out.symm))
  have cT:∀ (s13:Bool) (A13:Option Addr) (n13:Nat) (c13:Nat) (aD:Nat) (aG:Nat) (v:World),Hid (Below v4.heap.size v4 v)→Hid (PI v s13 A13 n13 c13 gu)→Hid (BX 33 v aD #[.bool false,.slice none 0 0])→Hid (v4.heap.size≤aD)→Hid (BX 33 v aG #[.bool false,.slice none 0 0])→Hid (v4.heap.size≤aG)→Hid (aD≠aG)→F 3 (Array.setIfInBounds (Array.setIfInBounds (Array.setIfInBounds L0 3 true) 8 true) 9 true) (Act.put (Act.put (Act.put a0 (some 22) (.agg #[.bool s13,.slice A13 n13 c13])) (some 8) (.pointer (some ⟨aD,0,none⟩))) (some 9) (.pointer (some ⟨aG,0,none⟩))) v:=by
   intro s13 A13 n13 c13 aD aG v aA aX aV bJ bB bK cP
   subst hF ha0 hL0
   simp only [PT] at cO ⊢
   have hHeld:=aO.out _ aA.out
   refine ryy [7] ?_
   refine .cons rfl (fun K hK=>?_) .nil
   go_simp
   go_at_call 94
   refine (fcommon_any r q sd s11 Ad A11 nd cd n11 c11 v (PF.new bW.out aA.out).1 (PIo.new bT.out aA.out) (Nat.le_trans (plim (PF.new bW.out aA.out).1 aJ.out.2.2.2.2.1) (by decide)) (Nat.le_trans (plim (PIo.new bT.out aA.out) aJ.out.2.2.2.1) (by decide))).mono ?_
   rw [show ((Nat.gcd r.natAbs q.natAbs:Nat):Int)=gv from cL.out]
   rintro e v57 ⟨s14,A14,n14,c14,rfl,hr14,hb⟩
   have eQ:=hJ hb
   have sL:=hJ hr14
   clear hb hr14
   go_wp2_with fail
   have kO:=hJ (bt aA.out eQ.out)
   have sM:=hJ (PIo.new aX.out eQ.out)
   have sN:=hJ (BX.new aV.out eQ.out)
   have sO:=hJ (BX.new bB.out eQ.out)
   clear hHeld
   refine hK.out _ _ (aO.out _ kO.out) (fun hHeld=>?_)
   clear hK K
   try simp only [PT]
   exact wpAnyH_cast (by kernel_rfl) (cO s13 A13 n13 c13 s14 A14 n14 c14 aD aG v57 kO sM sL sN bJ sO bK (hJ cP.out))
  have kP:∀ (s13:Bool) (A13:Option Addr) (n13:Nat) (c13:Nat) (s14:Bool) (A14:Option Addr) (n14:Nat) (c14:Nat) (v:World),Hid (Below v4.heap.size v4 v)→Hid (PI v s13 A13 n13 c13 gu)→Hid (PI v s14 A14 n14 c14 gv)→F 4 (Array.setIfInBounds (Array.setIfInBounds L0 3 true) 7 true) (Act.put (Act.put a0 (some 22) (.agg #[.bool s13,.slice A13 n13 c13])) (some 26) (.agg #[.bool s14,.slice A14 n14 c14])) v:=by
   intro s13 A13 n13 c13 s14 A14 n14 c14 v aA aX cD
   subst hF ha0 hL0
   simp only [PT] at eO eP ⊢
   have hHeld:=aO.out _ aA.out
   refine ryy [8,9] ?_
   refine .cons rfl (fun K hK=>?_) ?_
   go_simp
   have eR:=hJ ((Below.refl v.heap.size v).alloc (Nat.le_refl _) (.cells #[.bool false,.slice none 0 0] 33))
   have gP:=hJ (BX.lit v 33 #[.bool false,.slice none 0 0])
   obtain ⟨v58,hV⟩:=nmz (World.alloc v (.cells #[.bool false,.slice none 0 0] 33))
   obtain ⟨aD,hg⟩:=nmz (v.heap.size)
   rw [hV] at eR gP ⊢
   rw [hg] at gP ⊢
   have sP:=hJ (show v4.heap.size≤aD by rw [←hg]; exact aA.out.size)
   clear hV hg
   have kQ:=hJ (bt aA.out eR.out)
   have sQ:=hJ (PIo.new aX.out eR.out)
   have sR:=hJ (PIo.new cD.out eR.out)
   clear hHeld
   refine hK.out _ _ (aO.out _ kQ.out) (fun hHeld=>?_)
   clear hK K
   try simp only [PT]
   exact wpAnyH_cast (by kernel_rfl) (eO s13 A13 n13 c13 s14 A14 n14 c14 aD v58 kQ sQ sR gP sP)
   refine .cons rfl (fun K hK=>?_) .nil
   go_simp
   have eS:=hJ ((Below.refl v.heap.size v).alloc (Nat.le_refl _) (.cells #[.bool false,.slice none 0 0] 33))
   have gQ:=hJ (BX.lit v 33 #[.bool false,.slice none 0 0])
   obtain ⟨v59,hV⟩:=nmz (World.alloc v (.cells #[.bool false,.slice none 0 0] 33))
   obtain ⟨aG,hg⟩:=nmz (v.heap.size)
   rw [hV] at eS gQ ⊢
   rw [hg] at gQ ⊢
   have sT:=hJ (show v4.heap.size≤aG by rw [←hg]; exact aA.out.size)
   clear hV hg
   have kR:=hJ (bt aA.out eS.out)
   have sU:=hJ (PIo.new aX.out eS.out)
   have sV:=hJ (PIo.new cD.out eS.out)
   clear hHeld
   refine hK.out _ _ (aO.out _ kR.out) (fun hHeld=>?_)
   clear hK K
   try simp only [PT]
   exact wpAnyH_cast (by kernel_rfl) (eP s13 A13 n13 c13 s14 A14 n14 c14 aG v59 kR sU sV gQ sT)
  have eT:∀ (s13:Bool) (A13:Option Addr) (n13:Nat) (c13:Nat) (aD:Nat) (v:World),Hid (Below v4.heap.size v4 v)→Hid (PI v s13 A13 n13 c13 gu)→Hid (BX 33 v aD #[.bool false,.slice none 0 0])→Hid (v4.heap.size≤aD)→F 4 (Array.setIfInBounds (Array.setIfInBounds L0 3 true) 8 true) (Act.put (Act.put a0 (some 22) (.agg #[.bool s13,.slice A13 n13 c13])) (some 8) (.pointer (some ⟨aD,0,none⟩))) v:=by
   intro s13 A13 n13 c13 aD v aA aX aV bJ
   subst hF ha0 hL0
   simp only [PT] at eO cT ⊢
   have hHeld:=aO.out _ aA.out
   refine ryy [7,9] ?_
   refine .cons rfl (fun K hK=>?_) ?_
   go_simp
   go_at_call 94
   refine (fcommon_any r q sd s11 Ad A11 nd cd n11 c11 v (PF.new bW.out aA.out).1 (PIo.new bT.out aA.out) (Nat.le_trans (plim (PF.new bW.out aA.out).1 aJ.out.2.2.2.2.1) (by decide)) (Nat.le_trans (plim (PIo.new bT.out aA.out) aJ.out.2.2.2.1) (by decide))).mono ?_
   rw [show ((Nat.gcd r.natAbs q.natAbs:Nat):Int)=gv from cL.out]
   rintro e v60 ⟨s14,A14,n14,c14,rfl,hr14,hb⟩
   have gR:=hJ hb
   have sW:=hJ hr14
   clear hb hr14
   go_wp2_with fail
   have kS:=hJ (bt aA.out gR.out)
   have sX:=hJ (PIo.new aX.out gR.out)
   have sY:=hJ (BX.new aV.out gR.out)
   clear hHeld
   refine hK.out _ _ (aO.out _ kS.out) (fun hHeld=>?_)
   clear hK K
   try simp only [PT]
   exact wpAnyH_cast (by kernel_rfl) (eO s13 A13 n13 c13 s14 A14 n14 c14 aD v60 kS sX sW sY bJ)
   refine .cons rfl (fun K hK=>?_) .nil
   go_simp
   have eU:=hJ ((Below.refl v.heap.size v).alloc (Nat.le_refl _) (.cells #[.bool false,.slice none 0 0] 33))
   have gS:=hJ (BX.lit v 33 #[.bool false,.slice none 0 0])
   obtain ⟨v61,hV⟩:=nmz (World.alloc v (.cells #[.bool false,.slice none 0 0] 33))
   obtain ⟨aG,hg⟩:=nmz (v.heap.size)
   rw [hV] at eU gS ⊢
   rw [hg] at gS ⊢
   have sZ:=hJ (show v4.heap.size≤aG by rw [←hg]; exact aA.out.size)
   have tA:=hJ (show aD≠aG by have:=aV.out.lt; rw [hg] at this; omega)
   clear hV hg
   have kT:=hJ (bt aA.out eU.out)
   have tB:=hJ (PIo.new aX.out eU.out)
   have tC:=hJ (BX.new aV.out eU.out)
   clear hHeld
   refine hK.out _ _ (aO.out _ kT.out) (fun hHeld=>?_)
   clear hK K
   try simp only [PT]
   exact wpAnyH_cast (by kernel_rfl) (cT s13 A13 n13 c13 aD aG v61 kT tB tC bJ gS sZ (hJ tA.out))
  have eV:∀ (s13:Bool) (A13:Option Addr) (n13:Nat) (c13:Nat) (aG:Nat) (v:World),Hid (Below v4.heap.size v4 v)→Hid (PI v s13 A13 n13 c13 gu)→Hid (BX 33 v aG #[.bool false,.slice none 0 0])→Hid (v4.heap.size≤aG)→F 4 (Array.setIfInBounds (Array.setIfInBounds L0 3 true) 9 true) (Act.put (Act.put a0 (some 22) (.agg #[.bool s13,.slice A13 n13 c13])) (some 9) (.pointer (some ⟨aG,0,none⟩))) v:=by
   intro s13 A13 n13 c13 aG v aA aX bB bK
   subst hF ha0 hL0
   simp only [PT] at eP cT ⊢
   have hHeld:=aO.out _ aA.out
   refine ryy [7,8] ?_
   refine .cons rfl (fun K hK=>?_) ?_
   go_simp
   go_at_call 94
   refine (fcommon_any r q sd s11 Ad A11 nd cd n11 c11 v (PF.new bW.out aA.out).1 (PIo.new bT.out aA.out) (Nat.le_trans (plim (PF.new bW.out aA.out).1 aJ.out.2.2.2.2.1) (by decide)) (Nat.le_trans (plim (PIo.new bT.out aA.out) aJ.out.2.2.2.1) (by decide))).mono ?_
   rw [show ((Nat.gcd r.natAbs q.natAbs:Nat):Int)=gv from cL.out]
   rintro e v62 ⟨s14,A14,n14,c14,rfl,hr14,hb⟩
   have gT:=hJ hb
   have tD:=hJ hr14
   clear hb hr14
   go_wp2_with fail
   have kU:=hJ (bt aA.out gT.out)
   have tE:=hJ (PIo.new aX.out gT.out)
   have tF:=hJ (BX.new bB.out gT.out)
   clear hHeld
   refine hK.out _ _ (aO.out _ kU.out) (fun hHeld=>?_)
   clear hK K
   try simp only [PT]
   exact wpAnyH_cast (by kernel_rfl) (eP s13 A13 n13 c13 s14 A14 n14 c14 aG v62 kU tE tD tF bK)
   refine .cons rfl (fun K hK=>?_) .nil
   go_simp
   have eW:=hJ ((Below.refl v.heap.size v).alloc (Nat.le_refl _) (.cells #[.bool false,.slice none 0 0] 33))
   have gU:=hJ (BX.lit v 33 #[.bool false,.slice none 0 0])
   obtain ⟨v63,hV⟩:=nmz (World.alloc v (.cells #[.bool false,.slice none 0 0] 33))
   obtain ⟨aD,hg⟩:=nmz (v.heap.size)
   rw [hV] at eW gU ⊢
   rw [hg] at gU ⊢
   have tG:=hJ (show v4.heap.size≤aD by rw [←hg]; exact aA.out.size)
   have tH:=hJ (show aG≠aD by have:=bB.out.lt; rw [hg] at this; omega)
   clear hV hg
   have kV:=hJ (bt aA.out eW.out)
   have tI:=hJ (PIo.new aX.out eW.out)
   have tJ:=hJ (BX.new bB.out eW.out)
   clear hHeld
   refine hK.out _ _ (aO.out _ kV.out) (fun hHeld=>?_)
   clear hK K
   try simp only [PT]
   exact wpAnyH_cast (by kernel_rfl) (cT s13 A13 n13 c13 aD aG v63 kV tI gU tG tJ bK (hJ tH.out.symm))
  have eX:∀ (aD:Nat) (aG:Nat) (v:World),Hid (Below v4.heap.size v4 v)→Hid (BX 33 v aD #[.bool false,.slice none 0 0])→Hid (v4.heap.size≤aD)→Hid (BX 33 v aG #[.bool false,.slice none 0 0])→Hid (v4.heap.size≤aG)→Hid (aD≠aG)→F 4 (Array.setIfInBounds (Array.setIfInBounds L0 8 true) 9 true) (Act.put (Act.put a0 (some 8) (.pointer (some ⟨aD,0,none⟩))) (some 9) (.pointer (some ⟨aG,0,none⟩))) v:=by
   intro aD aG v aA aV bJ bB bK cP
   subst hF ha0 hL0
   simp only [PT] at cT ⊢
   have hHeld:=aO.out _ aA.out
   refine ryy [3] ?_
   refine .cons rfl (fun K hK=>?_) .nil
   go_simp
   go_at_call 94
   refine (fcommon_any p s sa s12 Aa A12 na ca n12 c12 v (PF.new bV.out aA.out).1 (PIo.new bU.out aA.out) (Nat.le_trans (plim (PF.new bV.out aA.out).1 aJ.out.2.2.1) (by decide)) (Nat.le_trans (plim (PIo.new bU.out aA.out) aJ.out.2.2.2.2.2) (by decide))).mono ?_
   rw [show ((Nat.gcd p.natAbs s.natAbs:Nat):Int)=gu from HU.out]
   rintro e v64 ⟨s13,A13,n13,c13,rfl,hr13,hb⟩
   have gV:=hJ hb
   have tK:=hJ hr13
   clear hb hr13
   go_wp2_with fail
   have kW:=hJ (bt aA.out gV.out)
   have tL:=hJ (BX.new aV.out gV.out)
   have tM:=hJ (BX.new bB.out gV.out)
   clear hHeld
   refine hK.out _ _ (aO.out _ kW.out) (fun hHeld=>?_)
   clear hK K
   try simp only [PT]
   exact wpAnyH_cast (by kernel_rfl) (cT s13 A13 n13 c13 aD aG v64 kW tK tL bJ tM bK (hJ cP.out))
  have kX:∀ (s13:Bool) (A13:Option Addr) (n13:Nat) (c13:Nat) (v:World),Hid (Below v4.heap.size v4 v)→Hid (PI v s13 A13 n13 c13 gu)→F 5 (Array.setIfInBounds L0 3 true) (Act.put a0 (some 22) (.agg #[.bool s13,.slice A13 n13 c13])) v:=by
   intro s13 A13 n13 c13 v aA aX
   subst hF ha0 hL0
   simp only [PT] at kP eT eV ⊢
   have hHeld:=aO.out _ aA.out
   refine ryy [7,8,9] ?_
   refine .cons rfl (fun K hK=>?_) ?_
   go_simp
   go_at_call 94
   refine (fcommon_any r q sd s11 Ad A11 nd cd n11 c11 v (PF.new bW.out aA.out).1 (PIo.new bT.out aA.out) (Nat.le_trans (plim (PF.new bW.out aA.out).1 aJ.out.2.2.2.2.1) (by decide)) (Nat.le_trans (plim (PIo.new bT.out aA.out) aJ.out.2.2.2.1) (by decide))).mono ?_
   rw [show ((Nat.gcd r.natAbs q.natAbs:Nat):Int)=gv from cL.out]
   rintro e v65 ⟨s14,A14,n14,c14,rfl,hr14,hb⟩
   have kY:=hJ hb
   have tN:=hJ hr14
   clear hb hr14
   go_wp2_with fail
   have kZ:=hJ (bt aA.out kY.out)
   have tO:=hJ (PIo.new aX.out kY.out)
   clear hHeld
   refine hK.out _ _ (aO.out _ kZ.out) (fun hHeld=>?_)
   clear hK K
   try simp only [PT]
   exact wpAnyH_cast (by kernel_rfl) (kP s13 A13 n13 c13 s14 A14 n14 c14 v65 kZ tO tN)
   refine .cons rfl (fun K hK=>?_) ?_
   go_simp
   have gW:=hJ ((Below.refl v.heap.size v).alloc (Nat.le_refl _) (.cells #[.bool false,.slice none 0 0] 33))
   have gX:=hJ (BX.lit v 33 #[.bool false,.slice none 0 0])
   obtain ⟨v66,hV⟩:=nmz (World.alloc v (.cells #[.bool false,.slice none 0 0] 33))
   obtain ⟨aD,hg⟩:=nmz (v.heap.size)
   rw [hV] at gW gX ⊢
   rw [hg] at gX ⊢
   have tP:=hJ (show v4.heap.size≤aD by rw [←hg]; exact aA.out.size)
   clear hV hg
   have lA:=hJ (bt aA.out gW.out)
   have tQ:=hJ (PIo.new aX.out gW.out)
   clear hHeld
   refine hK.out _ _ (aO.out _ lA.out) (fun hHeld=>?_)
   clear hK K
   try simp only [PT]
   exact wpAnyH_cast (by kernel_rfl) (eT s13 A13 n13 c13 aD v66 lA tQ gX tP)
   refine .cons rfl (fun K hK=>?_) .nil
   go_simp
   have gY:=hJ ((Below.refl v.heap.size v).alloc (Nat.le_refl _) (.cells #[.bool false,.slice none 0 0] 33))
   have gZ:=hJ (BX.lit v 33 #[.bool false,.slice none 0 0])
   obtain ⟨v67,hV⟩:=nmz (World.alloc v (.cells #[.bool false,.slice none 0 0] 33))
   obtain ⟨aG,hg⟩:=nmz (v.heap.size)
   rw [hV] at gY gZ ⊢
   rw [hg] at gZ ⊢
   have tR:=hJ (show v4.heap.size≤aG by rw [←hg]; exact aA.out.size)
   clear hV hg
   have lB:=hJ (bt aA.out gY.out)
   have tS:=hJ (PIo.new aX.out gY.out)
   clear hHeld
   refine hK.out _ _ (aO.out _ lB.out) (fun hHeld=>?_)
   clear hK K
   try simp only [PT]
   exact wpAnyH_cast (by kernel_rfl) (eV s13 A13 n13 c13 aG v67 lB tS gZ tR)
  have lC:∀ (aD:Nat) (v:World),Hid (Below v4.heap.size v4 v)→Hid (BX 33 v aD #[.bool false,.slice none 0 0])→Hid (v4.heap.size≤aD)→F 5 (Array.setIfInBounds L0 8 true) (Act.put a0 (some 8) (.pointer (some ⟨aD,0,none⟩))) v:=by
   intro aD v aA aV bJ
   subst hF ha0 hL0
   simp only [PT] at eT eX ⊢
   have hHeld:=aO.out _ aA.out
   refine ryy [3,9] ?_
   refine .cons rfl (fun K hK=>?_) ?_
   go_simp
   go_at_call 94
   refine (fcommon_any p s sa s12 Aa A12 na ca n12 c12 v (PF.new bV.out aA.out).1 (PIo.new bU.out aA.out) (Nat.le_trans (plim (PF.new bV.out aA.out).1 aJ.out.2.2.1) (by decide)) (Nat.le_trans (plim (PIo.new bU.out aA.out) aJ.out.2.2.2.2.2) (by decide))).mono ?_
   rw [show ((Nat.gcd p.natAbs s.natAbs:Nat):Int)=gu from HU.out]
   rintro e v68 ⟨s13,A13,n13,c13,rfl,hr13,hb⟩
   have lD:=hJ hb
   have tT:=hJ hr13
   clear hb hr13
   go_wp2_with fail
   have lE:=hJ (bt aA.out lD.out)
   have tU:=hJ (BX.new aV.out lD.out)
   clear hHeld
   refine hK.out _ _ (aO.out _ lE.out) (fun hHeld=>?_)
   clear hK K
   try simp only [PT]
   exact wpAnyH_cast (by kernel_rfl) (eT s13 A13 n13 c13 aD v68 lE tT tU bJ)
   refine .cons rfl (fun K hK=>?_) .nil
   go_simp
   have hA:=hJ ((Below.refl v.heap.size v).alloc (Nat.le_refl _) (.cells #[.bool false,.slice none 0 0] 33))
   have hB:=hJ (BX.lit v 33 #[.bool false,.slice none 0 0])
   obtain ⟨v69,hV⟩:=nmz (World.alloc v (.cells #[.bool false,.slice none 0 0] 33))
   obtain ⟨aG,hg⟩:=nmz (v.heap.size)
   rw [hV] at hA hB ⊢
   rw [hg] at hB ⊢
   have tV:=hJ (show v4.heap.size≤aG by rw [←hg]; exact aA.out.size)
   have tW:=hJ (show aD≠aG by have:=aV.out.lt; rw [hg] at this; omega)
   clear hV hg
   have lF:=hJ (bt aA.out hA.out)
   have tX:=hJ (BX.new aV.out hA.out)
   clear hHeld
   refine hK.out _ _ (aO.out _ lF.out) (fun hHeld=>?_)
   clear hK K
   try simp only [PT]
   exact wpAnyH_cast (by kernel_rfl) (eX aD aG v69 lF tX bJ hB tV (hJ tW.out))
  have lG:∀ (aG:Nat) (v:World),Hid (Below v4.heap.size v4 v)→Hid (BX 33 v aG #[.bool false,.slice none 0 0])→Hid (v4.heap.size≤aG)→F 5 (Array.setIfInBounds L0 9 true) (Act.put a0 (some 9) (.pointer (some ⟨aG,0,none⟩))) v:=by
   intro aG v aA bB bK
   subst hF ha0 hL0
   simp only [PT] at eV eX ⊢
   have hHeld:=aO.out _ aA.out
   refine ryy [3,8] ?_
   refine .cons rfl (fun K hK=>?_) ?_
   go_simp
   go_at_call 94
   refine (fcommon_any p s sa s12 Aa A12 na ca n12 c12 v (PF.new bV.out aA.out).1 (PIo.new bU.out aA.out) (Nat.le_trans (plim (PF.new bV.out aA.out).1 aJ.out.2.2.1) (by decide)) (Nat.le_trans (plim (PIo.new bU.out aA.out) aJ.out.2.2.2.2.2) (by decide))).mono ?_
   rw [show ((Nat.gcd p.natAbs s.natAbs:Nat):Int)=gu from HU.out]
   rintro e v70 ⟨s13,A13,n13,c13,rfl,hr13,hb⟩
   have lH:=hJ hb
   have tY:=hJ hr13
   clear hb hr13
   go_wp2_with fail
   have lI:=hJ (bt aA.out lH.out)
   have tZ:=hJ (BX.new bB.out lH.out)
   clear hHeld
   refine hK.out _ _ (aO.out _ lI.out) (fun hHeld=>?_)
   clear hK K
   try simp only [PT]
   exact wpAnyH_cast (by kernel_rfl) (eV s13 A13 n13 c13 aG v70 lI tY tZ bK)
   refine .cons rfl (fun K hK=>?_) .nil
   go_simp
   have hC:=hJ ((Below.refl v.heap.size v).alloc (Nat.le_refl _) (.cells #[.bool false,.slice none 0 0] 33))
   have hD:=hJ (BX.lit v 33 #[.bool false,.slice none 0 0])
   obtain ⟨v71,hV⟩:=nmz (World.alloc v (.cells #[.bool false,.slice none 0 0] 33))
   obtain ⟨aD,hg⟩:=nmz (v.heap.size)
   rw [hV] at hC hD ⊢
   rw [hg] at hD ⊢
   have uA:=hJ (show v4.heap.size≤aD by rw [←hg]; exact aA.out.size)
   have uB:=hJ (show aG≠aD by have:=bB.out.lt; rw [hg] at this; omega)
   clear hV hg
   have lJ:=hJ (bt aA.out hC.out)
   have uC:=hJ (BX.new bB.out hC.out)
   clear hHeld
   refine hK.out _ _ (aO.out _ lJ.out) (fun hHeld=>?_)
   clear hK K
   try simp only [PT]
   exact wpAnyH_cast (by kernel_rfl) (eX aD aG v71 lJ hD uA uC bK (hJ uB.out.symm))
  subst hF ha0 hL0
  simp only [PT] at kX lC lG
  refine ryy [3,8,9] ?_
  refine .cons rfl (fun K hK=>?_) ?_
  go_simp
  go_at_call 94
  refine (fcommon_any p s sa s12 Aa A12 na ca n12 c12 v7 (PF.new bV.out bX.out).1 (PIo.new bU.out bX.out) (Nat.le_trans (plim (PF.new bV.out bX.out).1 aJ.out.2.2.1) (by decide)) (Nat.le_trans (plim (PIo.new bU.out bX.out) aJ.out.2.2.2.2.2) (by decide))).mono ?_
  rw [show ((Nat.gcd p.natAbs s.natAbs:Nat):Int)=gu from HU.out]
  rintro e v72 ⟨s13,A13,n13,c13,rfl,hr13,hb⟩
  have uD:=hJ hb
  have uE:=hJ hr13
  clear hb hr13
  go_wp2_with fail
  have lK:=hJ (bt bX.out uD.out)
  clear hHeld
  refine hK.out _ _ (aO.out _ lK.out) (fun hHeld=>?_)
  clear hK K
  try simp only [PT]
  exact wpAnyH_cast (by kernel_rfl) (kX s13 A13 n13 c13 v72 lK uE)
  refine .cons rfl (fun K hK=>?_) ?_
  go_simp
  have lL:=hJ ((Below.refl v7.heap.size v7).alloc (Nat.le_refl _) (.cells #[.bool false,.slice none 0 0] 33))
  have hE:=hJ (BX.lit v7 33 #[.bool false,.slice none 0 0])
  obtain ⟨v73,hV⟩:=nmz (World.alloc v7 (.cells #[.bool false,.slice none 0 0] 33))
  obtain ⟨aD,hg⟩:=nmz (v7.heap.size)
  rw [hV] at lL hE ⊢
  rw [hg] at hE ⊢
  have uF:=hJ (show v4.heap.size≤aD by rw [←hg]; exact bX.out.size)
  clear hV hg
  have lM:=hJ (bt bX.out lL.out)
  clear hHeld
  refine hK.out _ _ (aO.out _ lM.out) (fun hHeld=>?_)
  clear hK K
  try simp only [PT]
  exact wpAnyH_cast (by kernel_rfl) (lC aD v73 lM hE uF)
  refine .cons rfl (fun K hK=>?_) .nil
  go_simp
  have lN:=hJ ((Below.refl v7.heap.size v7).alloc (Nat.le_refl _) (.cells #[.bool false,.slice none 0 0] 33))
  have hG:=hJ (BX.lit v7 33 #[.bool false,.slice none 0 0])
  obtain ⟨v74,hV⟩:=nmz (World.alloc v7 (.cells #[.bool false,.slice none 0 0] 33))
  obtain ⟨aG,hg⟩:=nmz (v7.heap.size)
  rw [hV] at lN hG ⊢
  rw [hg] at hG ⊢
  have uG:=hJ (show v4.heap.size≤aG by rw [←hg]; exact bX.out.size)
  clear hV hg
  have lO:=hJ (bt bX.out lN.out)
  clear hHeld
  refine hK.out _ _ (aO.out _ lO.out) (fun hHeld=>?_)
  clear hK K
  try simp only [PT]
  exact wpAnyH_cast (by kernel_rfl) (lG aG v74 lO hG uG)
 have eY:∀ (s11:Bool) (A11:Option Addr) (n11:Nat) (c11:Nat) (s12:Bool) (A12:Option Addr) (n12:Nat) (c12:Nat) (aB:Nat) (v:World),Hid (Below x1.heap.size x1 v)→Hid (PI v s11 A11 n11 c11 q)→Hid (PI v s12 A12 n12 c12 s)→Hid (BX 33 v aB #[.bool false,.slice none 0 0])→Hid (x1.heap.size≤aB)→F 3 (Array.setIfInBounds (Array.setIfInBounds (Array.setIfInBounds L0 1 true) 3 true) 4 true) (Act.put (Act.put (Act.put a0 (some 16) (.agg #[.bool s11,.slice A11 n11 c11])) (some 18) (.agg #[.bool s12,.slice A12 n12 c12])) (some 6) (.pointer (some ⟨aB,0,none⟩))) v:=by
  intro s11 A11 n11 c11 s12 A12 n12 c12 aB v aA aW cB aU bG
  subst hF ha0 hL0
  simp only [PT] at cM ⊢
  have hHeld:=aM.out _ aA.out
  refine ryy [5] ?_
  refine .cons rfl (fun K hK=>?_) .nil
  go_simp
  have dP:=hJ ((Below.refl v.heap.size v).alloc (Nat.le_refl _) (.cells #[.bool false,.slice none 0 0] 33))
  have hH:=hJ (BX.lit v 33 #[.bool false,.slice none 0 0])
  obtain ⟨v75,hV⟩:=nmz (World.alloc v (.cells #[.bool false,.slice none 0 0] 33))
  obtain ⟨aC,hg⟩:=nmz (v.heap.size)
  rw [hV] at dP hH ⊢
  rw [hg] at hH ⊢
  have uH:=hJ (show x1.heap.size≤aC by rw [←hg]; exact aA.out.size)
  have uI:=hJ (show aB≠aC by have:=aU.out.lt; rw [hg] at this; omega)
  clear hV hg
  have lP:=hJ (bt aA.out dP.out)
  have uJ:=hJ (PIo.new aW.out dP.out)
  have uK:=hJ (PIo.new cB.out dP.out)
  have uL:=hJ (BX.new aU.out dP.out)
  clear hHeld
  refine hK.out _ _ (aM.out _ lP.out) (fun hHeld=>?_)
  clear hK K
  try simp only [PT]
  exact wpAnyH_cast (by kernel_rfl) (cM s11 A11 n11 c11 s12 A12 n12 c12 aB aC v75 lP uJ uK uL bG hH uH (hJ uI.out))
 have eZ:∀ (s11:Bool) (A11:Option Addr) (n11:Nat) (c11:Nat) (s12:Bool) (A12:Option Addr) (n12:Nat) (c12:Nat) (aC:Nat) (v:World),Hid (Below x1.heap.size x1 v)→Hid (PI v s11 A11 n11 c11 q)→Hid (PI v s12 A12 n12 c12 s)→Hid (BX 33 v aC #[.bool false,.slice none 0 0])→Hid (x1.heap.size≤aC)→F 3 (Array.setIfInBounds (Array.setIfInBounds (Array.setIfInBounds L0 1 true) 3 true) 5 true) (Act.put (Act.put (Act.put a0 (some 16) (.agg #[.bool s11,.slice A11 n11 c11])) (some 18) (.agg #[.bool s12,.slice A12 n12 c12])) (some 7) (.pointer (some ⟨aC,0,none⟩))) v:=by
  intro s11 A11 n11 c11 s12 A12 n12 c12 aC v aA aW cB bA bH
  subst hF ha0 hL0
  simp only [PT] at cM ⊢
  have hHeld:=aM.out _ aA.out
  refine ryy [4] ?_
  refine .cons rfl (fun K hK=>?_) .nil
  go_simp
  have dQ:=hJ ((Below.refl v.heap.size v).alloc (Nat.le_refl _) (.cells #[.bool false,.slice none 0 0] 33))
  have hI:=hJ (BX.lit v 33 #[.bool false,.slice none 0 0])
  obtain ⟨v76,hV⟩:=nmz (World.alloc v (.cells #[.bool false,.slice none 0 0] 33))
  obtain ⟨aB,hg⟩:=nmz (v.heap.size)
  rw [hV] at dQ hI ⊢
  rw [hg] at hI ⊢
  have uM:=hJ (show x1.heap.size≤aB by rw [←hg]; exact aA.out.size)
  have uN:=hJ (show aC≠aB by have:=bA.out.lt; rw [hg] at this; omega)
  clear hV hg
  have lQ:=hJ (bt aA.out dQ.out)
  have uO:=hJ (PIo.new aW.out dQ.out)
  have uP:=hJ (PIo.new cB.out dQ.out)
  have uQ:=hJ (BX.new bA.out dQ.out)
  clear hHeld
  refine hK.out _ _ (aM.out _ lQ.out) (fun hHeld=>?_)
  clear hK K
  try simp only [PT]
  exact wpAnyH_cast (by kernel_rfl) (cM s11 A11 n11 c11 s12 A12 n12 c12 aB aC v76 lQ uO uP hI uM uQ bH (hJ uN.out.symm))
 have cU:∀ (s11:Bool) (A11:Option Addr) (n11:Nat) (c11:Nat) (aB:Nat) (aC:Nat) (v:World),Hid (Below x1.heap.size x1 v)→Hid (PI v s11 A11 n11 c11 q)→Hid (BX 33 v aB #[.bool false,.slice none 0 0])→Hid (x1.heap.size≤aB)→Hid (BX 33 v aC #[.bool false,.slice none 0 0])→Hid (x1.heap.size≤aC)→Hid (aB≠aC)→F 3 (Array.setIfInBounds (Array.setIfInBounds (Array.setIfInBounds L0 1 true) 4 true) 5 true) (Act.put (Act.put (Act.put a0 (some 16) (.agg #[.bool s11,.slice A11 n11 c11])) (some 6) (.pointer (some ⟨aB,0,none⟩))) (some 7) (.pointer (some ⟨aC,0,none⟩))) v:=by
  intro s11 A11 n11 c11 aB aC v aA aW aU bG bA bH cN
  subst hF ha0 hL0
  simp only [PT] at cM ⊢
  have hHeld:=aM.out _ aA.out
  refine ryy [3] ?_
  refine .cons rfl (fun K hK=>?_) .nil
  go_simp
  go_at_call 90
  refine (den_any r s sd se Ad Ae nd cd ne ce v (PF.new bR.out aA.out) (Nat.le_trans (plim (PF.new bR.out aA.out).2 (dn_lim aJ.out.2.2.2.2.2)) (by decide)) aJ.out.2.1).mono ?_
  rintro e v77 ⟨s12,A12,n12,c12,rfl,hr12,hb⟩
  have fA:=hJ hb
  have uR:=hJ hr12
  clear hb hr12
  go_wp2_with fail
  have lR:=hJ (bt aA.out fA.out)
  have uS:=hJ (PIo.new aW.out fA.out)
  have uT:=hJ (BX.new aU.out fA.out)
  have uU:=hJ (BX.new bA.out fA.out)
  clear hHeld
  refine hK.out _ _ (aM.out _ lR.out) (fun hHeld=>?_)
  clear hK K
  try simp only [PT]
  exact wpAnyH_cast (by kernel_rfl) (cM s11 A11 n11 c11 s12 A12 n12 c12 aB aC v77 lR uS uR uT bG uU bH (hJ cN.out))
 have lS:∀ (s11:Bool) (A11:Option Addr) (n11:Nat) (c11:Nat) (s12:Bool) (A12:Option Addr) (n12:Nat) (c12:Nat) (v:World),Hid (Below x1.heap.size x1 v)→Hid (PI v s11 A11 n11 c11 q)→Hid (PI v s12 A12 n12 c12 s)→F 4 (Array.setIfInBounds (Array.setIfInBounds L0 1 true) 3 true) (Act.put (Act.put a0 (some 16) (.agg #[.bool s11,.slice A11 n11 c11])) (some 18) (.agg #[.bool s12,.slice A12 n12 c12])) v:=by
  intro s11 A11 n11 c11 s12 A12 n12 c12 v aA aW cB
  subst hF ha0 hL0
  simp only [PT] at eY eZ ⊢
  have hHeld:=aM.out _ aA.out
  refine ryy [4,5] ?_
  refine .cons rfl (fun K hK=>?_) ?_
  go_simp
  have fB:=hJ ((Below.refl v.heap.size v).alloc (Nat.le_refl _) (.cells #[.bool false,.slice none 0 0] 33))
  have hL:=hJ (BX.lit v 33 #[.bool false,.slice none 0 0])
  obtain ⟨v78,hV⟩:=nmz (World.alloc v (.cells #[.bool false,.slice none 0 0] 33))
  obtain ⟨aB,hg⟩:=nmz (v.heap.size)
  rw [hV] at fB hL ⊢
  rw [hg] at hL ⊢
  have uV:=hJ (show x1.heap.size≤aB by rw [←hg]; exact aA.out.size)
  clear hV hg
  have lT:=hJ (bt aA.out fB.out)
  have uW:=hJ (PIo.new aW.out fB.out)
  have uX:=hJ (PIo.new cB.out fB.out)
  clear hHeld
  refine hK.out _ _ (aM.out _ lT.out) (fun hHeld=>?_)
  clear hK K
  try simp only [PT]
  exact wpAnyH_cast (by kernel_rfl) (eY s11 A11 n11 c11 s12 A12 n12 c12 aB v78 lT uW uX hL uV)
  refine .cons rfl (fun K hK=>?_) .nil
  go_simp
  have fC:=hJ ((Below.refl v.heap.size v).alloc (Nat.le_refl _) (.cells #[.bool false,.slice none 0 0] 33))
  have hM:=hJ (BX.lit v 33 #[.bool false,.slice none 0 0])
  obtain ⟨v79,hV⟩:=nmz (World.alloc v (.cells #[.bool false,.slice none 0 0] 33))
  obtain ⟨aC,hg⟩:=nmz (v.heap.size)
  rw [hV] at fC hM ⊢
  rw [hg] at hM ⊢
  have uY:=hJ (show x1.heap.size≤aC by rw [←hg]; exact aA.out.size)
  clear hV hg
  have lU:=hJ (bt aA.out fC.out)
  have uZ:=hJ (PIo.new aW.out fC.out)
  have vA:=hJ (PIo.new cB.out fC.out)
  clear hHeld
  refine hK.out _ _ (aM.out _ lU.out) (fun hHeld=>?_)
  clear hK K
  try simp only [PT]
  exact wpAnyH_cast (by kernel_rfl) (eZ s11 A11 n11 c11 s12 A12 n12 c12 aC v79 lU uZ vA hM uY)
 have fD:∀ (s11:Bool) (A11:Option Addr) (n11:Nat) (c11:Nat) (aB:Nat) (v:World),Hid (Below x1.heap.size x1 v)→Hid (PI v s11 A11 n11 c11 q)→Hid (BX 33 v aB #[.bool false,.slice none 0 0])→Hid (x1.heap.size≤aB)→F 4 (Array.setIfInBounds (Array.setIfInBounds L0 1 true) 4 true) (Act.put (Act.put a0 (some 16) (.agg #[.bool s11,.slice A11 n11 c11])) (some 6) (.pointer (some ⟨aB,0,none⟩))) v:=by
  intro s11 A11 n11 c11 aB v aA aW aU bG
  subst hF ha0 hL0
  simp only [PT] at eY cU ⊢
  have hHeld:=aM.out _ aA.out
  refine ryy [3,5] ?_
  refine .cons rfl (fun K hK=>?_) ?_
  go_simp
  go_at_call 90
  refine (den_any r s sd se Ad Ae nd cd ne ce v (PF.new bR.out aA.out) (Nat.le_trans (plim (PF.new bR.out aA.out).2 (dn_lim aJ.out.2.2.2.2.2)) (by decide)) aJ.out.2.1).mono ?_
  rintro e v80 ⟨s12,A12,n12,c12,rfl,hr12,hb⟩
  have hN:=hJ hb
  have vB:=hJ hr12
  clear hb hr12
  go_wp2_with fail
  have lV:=hJ (bt aA.out hN.out)
  have vC:=hJ (PIo.new aW.out hN.out)
  have vD:=hJ (BX.new aU.out hN.out)
  clear hHeld
  refine hK.out _ _ (aM.out _ lV.out) (fun hHeld=>?_)
  clear hK K
  try simp only [PT]
  exact wpAnyH_cast (by kernel_rfl) (eY s11 A11 n11 c11 s12 A12 n12 c12 aB v80 lV vC vB vD bG)
  refine .cons rfl (fun K hK=>?_) .nil
  go_simp
  have fE:=hJ ((Below.refl v.heap.size v).alloc (Nat.le_refl _) (.cells #[.bool false,.slice none 0 0] 33))
  have hO:=hJ (BX.lit v 33 #[.bool false,.slice none 0 0])
  obtain ⟨v81,hV⟩:=nmz (World.alloc v (.cells #[.bool false,.slice none 0 0] 33))
  obtain ⟨aC,hg⟩:=nmz (v.heap.size)
  rw [hV] at fE hO ⊢
  rw [hg] at hO ⊢
  have vE:=hJ (show x1.heap.size≤aC by rw [←hg]; exact aA.out.size)
  have vF:=hJ (show aB≠aC by have:=aU.out.lt; rw [hg] at this; omega)
  clear hV hg
  have lW:=hJ (bt aA.out fE.out)
  have vG:=hJ (PIo.new aW.out fE.out)
  have vH:=hJ (BX.new aU.out fE.out)
  clear hHeld
  refine hK.out _ _ (aM.out _ lW.out) (fun hHeld=>?_)
  clear hK K
  try simp only [PT]
  exact wpAnyH_cast (by kernel_rfl) (cU s11 A11 n11 c11 aB aC v81 lW vG vH bG hO vE (hJ vF.out))
 have fF:∀ (s11:Bool) (A11:Option Addr) (n11:Nat) (c11:Nat) (aC:Nat) (v:World),Hid (Below x1.heap.size x1 v)→Hid (PI v s11 A11 n11 c11 q)→Hid (BX 33 v aC #[.bool false,.slice none 0 0])→Hid (x1.heap.size≤aC)→F 4 (Array.setIfInBounds (Array.setIfInBounds L0 1 true) 5 true) (Act.put (Act.put a0 (some 16) (.agg #[.bool s11,.slice A11 n11 c11])) (some 7) (.pointer (some ⟨aC,0,none⟩))) v:=by
  intro s11 A11 n11 c11 aC v aA aW bA bH
  subst hF ha0 hL0
  simp only [PT] at eZ cU ⊢
  have hHeld:=aM.out _ aA.out
  refine ryy [3,4] ?_
  refine .cons rfl (fun K hK=>?_) ?_
  go_simp
  go_at_call 90
  refine (den_any r s sd se Ad Ae nd cd ne ce v (PF.new bR.out aA.out) (Nat.le_trans (plim (PF.new bR.out aA.out).2 (dn_lim aJ.out.2.2.2.2.2)) (by decide)) aJ.out.2.1).mono ?_
  rintro e v82 ⟨s12,A12,n12,c12,rfl,hr12,hb⟩
  have hP:=hJ hb
  have vI:=hJ hr12
  clear hb hr12
  go_wp2_with fail
  have lX:=hJ (bt aA.out hP.out)
  have vJ:=hJ (PIo.new aW.out hP.out)
  have vK:=hJ (BX.new bA.out hP.out)
  clear hHeld
  refine hK.out _ _ (aM.out _ lX.out) (fun hHeld=>?_)
  clear hK K
  try simp only [PT]
  exact wpAnyH_cast (by kernel_rfl) (eZ s11 A11 n11 c11 s12 A12 n12 c12 aC v82 lX vJ vI vK bH)
  refine .cons rfl (fun K hK=>?_) .nil
  go_simp
  have fG:=hJ ((Below.refl v.heap.size v).alloc (Nat.le_refl _) (.cells #[.bool false,.slice none 0 0] 33))
  have hQ:=hJ (BX.lit v 33 #[.bool false,.slice none 0 0])
  obtain ⟨v83,hV⟩:=nmz (World.alloc v (.cells #[.bool false,.slice none 0 0] 33))
  obtain ⟨aB,hg⟩:=nmz (v.heap.size)
  rw [hV] at fG hQ ⊢
  rw [hg] at hQ ⊢
  have vL:=hJ (show x1.heap.size≤aB by rw [←hg]; exact aA.out.size)
  have vM:=hJ (show aC≠aB by have:=bA.out.lt; rw [hg] at this; omega)
  clear hV hg
  have lY:=hJ (bt aA.out fG.out)
  have vN:=hJ (PIo.new aW.out fG.out)
  have vO:=hJ (BX.new bA.out fG.out)
  clear hHeld
  refine hK.out _ _ (aM.out _ lY.out) (fun hHeld=>?_)
  clear hK K
  try simp only [PT]
  exact wpAnyH_cast (by kernel_rfl) (cU s11 A11 n11 c11 aB aC v83 lY vN hQ vL vO bH (hJ vM.out.symm))
 have fH:∀ (aB:Nat) (aC:Nat) (v:World),Hid (Below x1.heap.size x1 v)→Hid (BX 33 v aB #[.bool false,.slice none 0 0])→Hid (x1.heap.size≤aB)→Hid (BX 33 v aC #[.bool false,.slice none 0 0])→Hid (x1.heap.size≤aC)→Hid (aB≠aC)→F 4 (Array.setIfInBounds (Array.setIfInBounds L0 4 true) 5 true) (Act.put (Act.put a0 (some 6) (.pointer (some ⟨aB,0,none⟩))) (some 7) (.pointer (some ⟨aC,0,none⟩))) v:=by
  intro aB aC v aA aU bG bA bH cN
  subst hF ha0 hL0
  simp only [PT] at cU ⊢
  have hHeld:=aM.out _ aA.out
  refine ryy [1] ?_
  refine .cons rfl (fun K hK=>?_) .nil
  go_simp
  go_at_call 90
  refine (den_any p q sa sb Aa Ab na ca nb cb v (PF.new bQ.out aA.out) (Nat.le_trans (plim (PF.new bQ.out aA.out).2 (dn_lim aJ.out.2.2.2.1)) (by decide)) aJ.out.1).mono ?_
  rintro e v84 ⟨s11,A11,n11,c11,rfl,hr11,hb⟩
  have hR:=hJ hb
  have vP:=hJ hr11
  clear hb hr11
  go_wp2_with fail
  have lZ:=hJ (bt aA.out hR.out)
  have vQ:=hJ (BX.new aU.out hR.out)
  have vR:=hJ (BX.new bA.out hR.out)
  clear hHeld
  refine hK.out _ _ (aM.out _ lZ.out) (fun hHeld=>?_)
  clear hK K
  try simp only [PT]
  exact wpAnyH_cast (by kernel_rfl) (cU s11 A11 n11 c11 aB aC v84 lZ vP vQ bG vR bH (hJ cN.out))
 have mA:∀ (s11:Bool) (A11:Option Addr) (n11:Nat) (c11:Nat) (v:World),Hid (Below x1.heap.size x1 v)→Hid (PI v s11 A11 n11 c11 q)→F 5 (Array.setIfInBounds L0 1 true) (Act.put a0 (some 16) (.agg #[.bool s11,.slice A11 n11 c11])) v:=by
  intro s11 A11 n11 c11 v aA aW
  subst hF ha0 hL0
  simp only [PT] at lS fD fF ⊢
  have hHeld:=aM.out _ aA.out
  refine ryy [3,4,5] ?_
  refine .cons rfl (fun K hK=>?_) ?_
  go_simp
  go_at_call 90
  refine (den_any r s sd se Ad Ae nd cd ne ce v (PF.new bR.out aA.out) (Nat.le_trans (plim (PF.new bR.out aA.out).2 (dn_lim aJ.out.2.2.2.2.2)) (by decide)) aJ.out.2.1).mono ?_
  rintro e v85 ⟨s12,A12,n12,c12,rfl,hr12,hb⟩
  have mB:=hJ hb
  have vS:=hJ hr12
  clear hb hr12
  go_wp2_with fail
  have mC:=hJ (bt aA.out mB.out)
  have vT:=hJ (PIo.new aW.out mB.out)
  clear hHeld
  refine hK.out _ _ (aM.out _ mC.out) (fun hHeld=>?_)
  clear hK K
  try simp only [PT]
  exact wpAnyH_cast (by kernel_rfl) (lS s11 A11 n11 c11 s12 A12 n12 c12 v85 mC vT vS)
  refine .cons rfl (fun K hK=>?_) ?_
  go_simp
  have hS:=hJ ((Below.refl v.heap.size v).alloc (Nat.le_refl _) (.cells #[.bool false,.slice none 0 0] 33))
  have hT:=hJ (BX.lit v 33 #[.bool false,.slice none 0 0])
  obtain ⟨v86,hV⟩:=nmz (World.alloc v (.cells #[.bool false,.slice none 0 0] 33))
  obtain ⟨aB,hg⟩:=nmz (v.heap.size)
  rw [hV] at hS hT ⊢
  rw [hg] at hT ⊢
  have vU:=hJ (show x1.heap.size≤aB by rw [←hg]; exact aA.out.size)
  clear hV hg
  have mD:=hJ (bt aA.out hS.out)
  have vV:=hJ (PIo.new aW.out hS.out)
  clear hHeld
  refine hK.out _ _ (aM.out _ mD.out) (fun hHeld=>?_)
  clear hK K
  try simp only [PT]
  exact wpAnyH_cast (by kernel_rfl) (fD s11 A11 n11 c11 aB v86 mD vV hT vU)
  refine .cons rfl (fun K hK=>?_) .nil
  go_simp
  have hU:=hJ ((Below.refl v.heap.size v).alloc (Nat.le_refl _) (.cells #[.bool false,.slice none 0 0] 33))
  have hW:=hJ (BX.lit v 33 #[.bool false,.slice none 0 0])
  obtain ⟨v87,hV⟩:=nmz (World.alloc v (.cells #[.bool false,.slice none 0 0] 33))
  obtain ⟨aC,hg⟩:=nmz (v.heap.size)
  rw [hV] at hU hW ⊢
  rw [hg] at hW ⊢
  have vW:=hJ (show x1.heap.size≤aC by rw [←hg]; exact aA.out.size)
  clear hV hg
  have mE:=hJ (bt aA.out hU.out)
  have vX:=hJ (PIo.new aW.out hU.out)
  clear hHeld
  refine hK.out _ _ (aM.out _ mE.out) (fun hHeld=>?_)
  clear hK K
  try simp only [PT]
  exact wpAnyH_cast (by kernel_rfl) (fF s11 A11 n11 c11 aC v87 mE vX hW vW)
 have mF:∀ (aB:Nat) (v:World),Hid (Below x1.heap.size x1 v)→Hid (BX 33 v aB #[.bool false,.slice none 0 0])→Hid (x1.heap.size≤aB)→F 5 (Array.setIfInBounds L0 4 true) (Act.put a0 (some 6) (.pointer (some ⟨aB,0,none⟩))) v:=by
  intro aB v aA aU bG
  subst hF ha0 hL0
  simp only [PT] at fD fH ⊢
  have hHeld:=aM.out _ aA.out
  refine ryy [1,5] ?_
  refine .cons rfl (fun K hK=>?_) ?_
  go_simp
  go_at_call 90
  refine (den_any p q sa sb Aa Ab na ca nb cb v (PF.new bQ.out aA.out) (Nat.le_trans (plim (PF.new bQ.out aA.out).2 (dn_lim aJ.out.2.2.2.1)) (by decide)) aJ.out.1).mono ?_
  rintro e v88 ⟨s11,A11,n11,c11,rfl,hr11,hb⟩
  have mG:=hJ hb
  have vY:=hJ hr11
  clear hb hr11
  go_wp2_with fail
  have mH:=hJ (bt aA.out mG.out)
  have vZ:=hJ (BX.new aU.out mG.out)
  clear hHeld
  refine hK.out _ _ (aM.out _ mH.out) (fun hHeld=>?_)
  clear hK K
  try simp only [PT]
  exact wpAnyH_cast (by kernel_rfl) (fD s11 A11 n11 c11 aB v88 mH vY vZ bG)
  refine .cons rfl (fun K hK=>?_) .nil
  go_simp
  have hX:=hJ ((Below.refl v.heap.size v).alloc (Nat.le_refl _) (.cells #[.bool false,.slice none 0 0] 33))
  have hY:=hJ (BX.lit v 33 #[.bool false,.slice none 0 0])
  obtain ⟨v89,hV⟩:=nmz (World.alloc v (.cells #[.bool false,.slice none 0 0] 33))
  obtain ⟨aC,hg⟩:=nmz (v.heap.size)
  rw [hV] at hX hY ⊢
  rw [hg] at hY ⊢
  have wA:=hJ (show x1.heap.size≤aC by rw [←hg]; exact aA.out.size)
  have wB:=hJ (show aB≠aC by have:=aU.out.lt; rw [hg] at this; omega)
  clear hV hg
  have mI:=hJ (bt aA.out hX.out)
  have wC:=hJ (BX.new aU.out hX.out)
  clear hHeld
  refine hK.out _ _ (aM.out _ mI.out) (fun hHeld=>?_)
  clear hK K
  try simp only [PT]
  exact wpAnyH_cast (by kernel_rfl) (fH aB aC v89 mI wC bG hY wA (hJ wB.out))
 have mJ:∀ (aC:Nat) (v:World),Hid (Below x1.heap.size x1 v)→Hid (BX 33 v aC #[.bool false,.slice none 0 0])→Hid (x1.heap.size≤aC)→F 5 (Array.setIfInBounds L0 5 true) (Act.put a0 (some 7) (.pointer (some ⟨aC,0,none⟩))) v:=by
  intro aC v aA bA bH
  subst hF ha0 hL0
  simp only [PT] at fF fH ⊢
  have hHeld:=aM.out _ aA.out
  refine ryy [1,4] ?_
  refine .cons rfl (fun K hK=>?_) ?_
  go_simp
  go_at_call 90
  refine (den_any p q sa sb Aa Ab na ca nb cb v (PF.new bQ.out aA.out) (Nat.le_trans (plim (PF.new bQ.out aA.out).2 (dn_lim aJ.out.2.2.2.1)) (by decide)) aJ.out.1).mono ?_
  rintro e v90 ⟨s11,A11,n11,c11,rfl,hr11,hb⟩
  have mK:=hJ hb
  have wD:=hJ hr11
  clear hb hr11
  go_wp2_with fail
  have mL:=hJ (bt aA.out mK.out)
  have wE:=hJ (BX.new bA.out mK.out)
  clear hHeld
  refine hK.out _ _ (aM.out _ mL.out) (fun hHeld=>?_)
  clear hK K
  try simp only [PT]
  exact wpAnyH_cast (by kernel_rfl) (fF s11 A11 n11 c11 aC v90 mL wD wE bH)
  refine .cons rfl (fun K hK=>?_) .nil
  go_simp
  have hZ:=hJ ((Below.refl v.heap.size v).alloc (Nat.le_refl _) (.cells #[.bool false,.slice none 0 0] 33))
  have iA:=hJ (BX.lit v 33 #[.bool false,.slice none 0 0])
  obtain ⟨v91,hV⟩:=nmz (World.alloc v (.cells #[.bool false,.slice none 0 0] 33))
  obtain ⟨aB,hg⟩:=nmz (v.heap.size)
  rw [hV] at hZ iA ⊢
  rw [hg] at iA ⊢
  have wF:=hJ (show x1.heap.size≤aB by rw [←hg]; exact aA.out.size)
  have wG:=hJ (show aC≠aB by have:=bA.out.lt; rw [hg] at this; omega)
  clear hV hg
  have mM:=hJ (bt aA.out hZ.out)
  have wH:=hJ (BX.new bA.out hZ.out)
  clear hHeld
  refine hK.out _ _ (aM.out _ mM.out) (fun hHeld=>?_)
  clear hK K
  try simp only [PT]
  exact wpAnyH_cast (by kernel_rfl) (fH aB aC v91 mM iA wF wH bH (hJ wG.out.symm))
 subst hF ha0 hL0
 simp only [PT] at mA mF mJ
 refine ryy [1,4,5] ?_
 refine .cons rfl (fun K hK=>?_) ?_
 go_simp
 go_at_call 90
 refine (den_any p q sa sb Aa Ab na ca nb cb v2 (PF.new bQ.out cF.out) (Nat.le_trans (plim (PF.new bQ.out cF.out).2 (dn_lim aJ.out.2.2.2.1)) (by decide)) aJ.out.1).mono ?_
 rintro e v92 ⟨s11,A11,n11,c11,rfl,hr11,hb⟩
 have wJ:=hJ hb
 have wK:=hJ hr11
 clear hb hr11
 go_wp2_with fail
 have mN:=hJ (bt cF.out wJ.out)
 clear hHeld
 refine hK.out _ _ (aM.out _ mN.out) (fun hHeld=>?_)
 clear hK K
 try simp only [PT]
 exact wpAnyH_cast (by kernel_rfl) (mA s11 A11 n11 c11 v92 mN wK)
 refine .cons rfl (fun K hK=>?_) ?_
 go_simp
 have mO:=hJ ((Below.refl v2.heap.size v2).alloc (Nat.le_refl _) (.cells #[.bool false,.slice none 0 0] 33))
 have iB:=hJ (BX.lit v2 33 #[.bool false,.slice none 0 0])
 obtain ⟨v93,hV⟩:=nmz (World.alloc v2 (.cells #[.bool false,.slice none 0 0] 33))
 obtain ⟨aB,hg⟩:=nmz (v2.heap.size)
 rw [hV] at mO iB ⊢
 rw [hg] at iB ⊢
 have wL:=hJ (show x1.heap.size≤aB by rw [←hg]; exact cF.out.size)
 clear hV hg
 have mP:=hJ (bt cF.out mO.out)
 clear hHeld
 refine hK.out _ _ (aM.out _ mP.out) (fun hHeld=>?_)
 clear hK K
 try simp only [PT]
 exact wpAnyH_cast (by kernel_rfl) (mF aB v93 mP iB wL)
 refine .cons rfl (fun K hK=>?_) .nil
 go_simp
 have mQ:=hJ ((Below.refl v2.heap.size v2).alloc (Nat.le_refl _) (.cells #[.bool false,.slice none 0 0] 33))
 have iC:=hJ (BX.lit v2 33 #[.bool false,.slice none 0 0])
 obtain ⟨v94,hV⟩:=nmz (World.alloc v2 (.cells #[.bool false,.slice none 0 0] 33))
 obtain ⟨aC,hg⟩:=nmz (v2.heap.size)
 rw [hV] at mQ iC ⊢
 rw [hg] at iC ⊢
 have wM:=hJ (show x1.heap.size≤aC by rw [←hg]; exact cF.out.size)
 clear hV hg
 have mR:=hJ (bt cF.out mQ.out)
 clear hHeld
 refine hK.out _ _ (aM.out _ mR.out) (fun hHeld=>?_)
 clear hK K
 try simp only [PT]
 exact wpAnyH_cast (by kernel_rfl) (mJ aC v94 mR iC wM)
end Go.Proofs.YtdgicnhadecldaaGreat
namespace Go.Proofs.YtdgicnhadecldaaGreat
set_option maxRecDepth 100000
set_option maxHeartbeats 12800000
open Go.RowKit
attribute [local go_sem ↓] Go.wp_at_zero Go.wp_at_succ
theorem i64_lim {x:Int} (h:(Lit.int .i64 x).wf=true):x.natAbs < lim:=by
 obtain ⟨h1,h2⟩ : -9223372036854775808≤x∧x≤9223372036854775807:=by simpa [Lit.wf,IntKind.min,IntKind.max,IntKind.signed,IntKind.bits] using h
 exact B2.lim (k:=64) (by have:B2 64=18446744073709551616:=rfl; omega) (by decide)
theorem mkQ_pos {p q:Int}:0 < mkQ p q:=by
 unfold mkQ
 split
 ·decide
 ·rename_i h
  have h1:=Nat.gcd_pos_of_pos_right p.natAbs (show 0 < q.natAbs by omega)
  have hd:=Nat.gcd_dvd_right p.natAbs q.natAbs
  unfold mkD
  obtain ⟨k,hk⟩:=hd
  generalize Nat.gcd p.natAbs q.natAbs=G at *
  have hk0:0 < k:=by
   rcases Nat.eq_zero_or_pos k with e | e
   ·subst e; omega
   exact e
  split
  ·have e:q = -(G:Int)*(k:Int):=by
    have h3:q = -(q.natAbs:Int):=by omega
    rw [h3,hk,Int.natCast_mul,Int.neg_mul]
   rw [e,Int.mul_ediv_cancel_left _ (by omega)]
   omega
  ·have e:q=(G:Int)*(k:Int):=by
    have h3:q=(q.natAbs:Int):=by omega
    rw [h3,hk,Int.natCast_mul]
   rw [e,Int.mul_ediv_cancel_left _ (by omega)]
   omega
theorem one_lim:(1:Int).natAbs < lim:=by
 rw [lim_two]
 exact Nat.one_lt_two_pow (by decide)
theorem mkPQ_lim {p q:Int} (hp:p.natAbs < lim) (hq:q.natAbs < lim):(mkP p q).natAbs < lim∧(mkQ p q).natAbs < lim:=by
 by_cases h:q=0
 ·subst h
  exact ⟨by rw [(mk_zero p).1]; have:=one_lim; simp at this ⊢; omega,by rw [(mk_zero p).2.1]; exact one_lim⟩
 ·exact mk_lim h hp hq
theorem fof_any (p q:Int) (w:World) (hp:(Lit.int .i64 p).wf=true) (hq:(Lit.int .i64 q).wf=true) :
  Calls Tryz.prog 53 #[.int .i64 p,.int .i64 q] w (RetFE (mkP p q) (mkQ p q) (mkC q) w):=by
 have HP:=hJ hp
 have HQ:=hJ hq
 clear hp hq
 obtain ⟨W,hW⟩:∃ W,w.alloc (.cells #[.bool false,.slice none 0 0,.bool false,.slice none 0 0] 35)=W:=⟨_,rfl⟩
 have HK:=hJ (show Below w.heap.size w W by rw [←hW]; exact (Below.refl _ w).alloc (Nat.le_refl _) _)
 have HZ:=hJ (show P4 35 W w.heap.size (.bool false) (.slice none 0 0) (.bool false) (.slice none 0 0) by rw [←hW]; exact P4.lit _ _ _ _ _ _)
 go_enter Tryz.func53,Tryz.ntmps53
 go_wp2_with fail
 refine (from_any p W HP.out).mono ?_
 rintro e w1 ⟨s1,A1,n1,c1,rfl,hr1,hb1⟩
 have aB:=hJ hr1
 have aC:=hJ (bt HK.out hb1)
 have aD:=hJ (HZ.out.new hb1)
 clear hr1 hb1
 go_wp2_with fail
 refine (from_any q w1 HQ.out).mono ?_
 rintro e w2 ⟨s2,A2,n2,c2,rfl,hr2,hb2⟩
 have aG:=hJ hr2
 have aH:=hJ (PIo.new aB.out hb2)
 have aI:=hJ (bt aC.out hb2)
 have aJ:=hJ (aD.out.new hb2)
 clear hr2 hb2
 go_wp2_with fail
 refine (fmake_any p q s1 s2 A1 A2 n1 c1 n2 c2 w2 aH.out aG.out (i64_lim HP.out) (i64_lim HQ.out)).mono ?_
 rintro e w3 ⟨s3,A3,n3,c3,s4,A4,n4,c4,rfl,hr3,hb3⟩
 have aK:=hJ hr3
 have aL:=hJ (bt aI.out hb3)
 have aA:=hJ (aJ.out.new hb3)
 clear hr3 hb3
 obtain ⟨z0,z1,z2,z3⟩:=aA.out.cells
 have f0:=aA.out.frozen 0
 have f1:=aA.out.frozen 1
 have f2:=aA.out.frozen 2
 have f3:=aA.out.frozen 3
 go_wp2
 exact bodyPost_ret (results_cell1 rfl _ _ _ _ _ _ _ rfl (aA.out.all (.bool s3) (.slice A3 n3 c3) (.bool s4) (.slice A4 n4 c4)) Tryz.underlying35 rfl F_size) rfl (RetFE.stored aK.out aA.out aL.out (Nat.le_refl _) _ _ _ _)
theorem fsub_any (p q r s:Int) (sa sb sd se:Bool) (Aa Ab Ad Ae:Option Addr) (na ca nb cb nd cd ne ce:Nat) (w:World) (hx:PF w sa Aa na ca sb Ab nb cb p q) (hy:PF w sd Ad nd cd se Ae ne ce r s) (hq:0 < q) (hs:0 < s) (hlp:p.natAbs < lim) (hlq:q.natAbs < lim) (hlr:r.natAbs < lim) (hls:s.natAbs < lim) :
  Calls Tryz.prog 102 #[.agg #[.bool sa,.slice Aa na ca,.bool sb,.slice Ab nb cb],.agg #[.bool sd,.slice Ad nd cd,.bool se,.slice Ae ne ce]] w (RetFE (adP p q (-r) s) (adQ p q (-r) s) (adC p q (-r) s) w):=by
 have aG:=hJ (And.intro hq (And.intro hs (And.intro hlp (And.intro hlq (And.intro hlr hls)))))
 obtain ⟨W,hW⟩:∃ W,((w.alloc (.cells #[.bool sa,.slice Aa na ca,.bool sb,.slice Ab nb cb] 35)).alloc (.cells #[.bool sd,.slice Ad nd cd,.bool se,.slice Ae ne ce] 35)).alloc (.cells #[.bool false,.slice none 0 0,.bool false,.slice none 0 0] 35)=W:=⟨_,rfl⟩
 have HK:=hJ (show Below w.heap.size w W by rw [←hW]; exact W444_k _ _ _ _ _ _ _ _ _ _ _ _ _ _)
 have aW:=hJ (show P4 35 W w.heap.size (.bool sa) (.slice Aa na ca) (.bool sb) (.slice Ab nb cb) by rw [←hW]; exact W444_a _ _ _ _ _ _ _ _ _ _ _ _ _ _)
 have aX:=hJ (show P4 35 W (w.heap.size+1) (.bool sd) (.slice Ad nd cd) (.bool se) (.slice Ae ne ce) by rw [←hW]; exact W444_b _ _ _ _ _ _ _ _ _ _ _ _ _ _)
 have aY:=hJ (show P4 35 W (w.heap.size+1+1) (.bool false) (.slice none 0 0) (.bool false) (.slice none 0 0) by rw [←hW]; exact W444_z _ _ _ _ _ _ _ _ _ _ _ _ _ _)
 have bC:=hJ (hx.new HK.out)
 have bD:=hJ (hy.new HK.out)
 have hna:na≤512:=plim hx.1 hlp
 have hnb:nb≤512:=plim hx.2 (dn_lim hlq)
 have hnd:nd≤512:=plim hy.1 hlr
 have hne:ne≤512:=plim hy.2 (dn_lim hls)
 obtain ⟨h,hh⟩:∃ h,w.heap.size=h:=⟨_,rfl⟩
 have HH:=hJ hh
 rw [hh] at aW aX aY
 clear hx hy hq hs hlp hlq hlr hls
 go_enter Tryz.func102,Tryz.ntmps102
 go_upto_region 1 with fail
 clear hW hh
 obtain ⟨P,hP⟩:∃ x,adP p q (-r) s=x:=⟨_,rfl⟩
 obtain ⟨Q,hQ⟩:∃ x,adQ p q (-r) s=x:=⟨_,rfl⟩
 obtain ⟨C,hC⟩:∃ x,adC p q (-r) s=x:=⟨_,rfl⟩
 have aH:=hJ (And.intro hP (And.intro hQ hC))
 have bE:=hJ (show (-r).natAbs < lim by rw [Int.natAbs_neg]; exact aG.out.2.2.2.2.1)
 clear hP hQ hC
 obtain ⟨v0,hv0⟩:=nmz (World.drew W)
 have aC:=hJ (show Below W.heap.size W v0 by rw [←hv0]; exact (Below.refl _ _).drew)
 have aT:=hJ (bt HK.out aC.out)
 have a_0:=hJ ((bC.out).new aC.out)
 have b_0:=hJ ((bD.out).new aC.out)
 have aI:=hJ (aW.out.new aC.out)
 have aJ:=hJ (aX.out.new aC.out)
 have aZ:=hJ (aY.out.new aC.out)
 refine wp_region_held_drew (S:=(fun w':World=>w'.cell? ⟨h,0,none⟩=some (.bool sa)∧w'.cell? ⟨h,1,none⟩=some (.slice Aa na ca)∧w'.cell? ⟨h,2,none⟩=some (.bool sb)∧w'.cell? ⟨h,3,none⟩=some (.slice Ab nb cb)∧w'.cell? ⟨(h+1),0,none⟩=some (.bool sd)∧w'.cell? ⟨(h+1),1,none⟩=some (.slice Ad nd cd)∧w'.cell? ⟨(h+1),2,none⟩=some (.bool se)∧w'.cell? ⟨(h+1),3,none⟩=some (.slice Ae ne ce)∧Below w.heap.size w w')) (by kernel_rfl) ?_ (fun hHeld=>?_)
 ·rw [hv0]
  exact ⟨aI.out.cells.1,aI.out.cells.2.1,aI.out.cells.2.2.1,aI.out.cells.2.2.2,aJ.out.cells.1,aJ.out.cells.2.1,aJ.out.cells.2.2.1,aJ.out.cells.2.2.2,aT.out⟩
 rw [hv0] at hHeld ⊢
 clear hv0 aC
 refine tq 0 ?_
 refine tq 1 ?_
 refine tq 2 ?_
 refine tq 4 ?_
 refine tq 5 ?_
 try simp only [PT]
 refine ryy [3] ?_
 refine .cons rfl (fun K hK=>?_) .nil
 go_simp
 go_at_call 113
 refine (pneg_any r sd Ad nd cd v0 (b_0.out.1) (by omega)).mono ?_
 rintro e v1 ⟨t1,T1,m1,d1,rfl,hr,hk⟩
 have N_1:=hJ (hr)
 have aD:=hJ hk
 go_wp2_with fail
 have aU:=hJ (bt aT.out aD.out)
 have a_1:=hJ ((a_0.out).new aD.out)
 have b_1:=hJ ((b_0.out).new aD.out)
 have aK:=hJ (aI.out.new aD.out)
 have aL:=hJ (aJ.out.new aD.out)
 have bA:=hJ (aZ.out.new aD.out)
 clear hHeld
 refine hK.out _ _ (⟨aK.out.cells.1,aK.out.cells.2.1,aK.out.cells.2.2.1,aK.out.cells.2.2.2,aL.out.cells.1,aL.out.cells.2.1,aL.out.cells.2.2.1,aL.out.cells.2.2.2,aU.out⟩) (fun hHeld=>?_)
 clear hK K hk aD hr aT a_0 b_0 aI aJ aZ
 refine tq 6 ?_
 try simp only [PT]
 refine ryy [7] ?_
 refine .cons rfl (fun K hK=>?_) .nil
 go_simp
 go_at_call 67
 refine (fadd_any p q (-r) s sa sb t1 se Aa Ab T1 Ae na ca nb cb m1 d1 ne ce v1 (a_1.out) ⟨N_1.out,b_1.out.2⟩ aG.out.1 aG.out.2.1 aG.out.2.2.1 aG.out.2.2.2.1 bE.out aG.out.2.2.2.2.2).mono ?_
 rw [aH.out.1,aH.out.2.1,aH.out.2.2]
 rintro e v2 ⟨t3,T3,m3,d3,t4,T4,m4,d4,rfl,hr,hk⟩
 have R_2:=hJ (hr)
 have aB:=hJ hk
 go_wp2_with fail
 have aV:=hJ (bt aU.out aB.out)
 have a_2:=hJ ((a_1.out).new aB.out)
 have b_2:=hJ ((b_1.out).new aB.out)
 have N_2:=hJ (PIo.new N_1.out aB.out)
 have aM:=hJ (aK.out.new aB.out)
 have aO:=hJ (aL.out.new aB.out)
 have aA:=hJ (bA.out.new aB.out)
 clear hHeld
 refine hK.out _ _ (⟨aM.out.cells.1,aM.out.cells.2.1,aM.out.cells.2.2.1,aM.out.cells.2.2.2,aO.out.cells.1,aO.out.cells.2.1,aO.out.cells.2.2.1,aO.out.cells.2.2.2,aV.out⟩) (fun hHeld=>?_)
 clear hK K hk aB hr aU a_1 b_1 N_1 aK aL bA
 refine tq 8 ?_
 refine tq 9 ?_
 try simp only [PT]
 refine ryy [10] ?_
 refine .cons rfl (fun K hK=>?_) .nil
 obtain ⟨z0,z1,z2,z3⟩:=aA.out.cells
 have y0:=aA.out.frozen 0
 have y1:=aA.out.frozen 1
 have y2:=aA.out.frozen 2
 have y3:=aA.out.frozen 3
 have z9:=aA.out.lt
 go_simp
 obtain ⟨v3,hV⟩:=nmz (World.setCell (World.setCell (World.setCell (World.setCell v2 ⟨(h+1+1),0,none⟩ (.bool t3)) ⟨(h+1+1),1,none⟩ (.slice T3 m3 d3)) ⟨(h+1+1),2,none⟩ (.bool t4)) ⟨(h+1+1),3,none⟩ (.slice T4 m4 d4))
 rw [hV]
 have bB:=hJ (show Below w.heap.size w v3 by rw [←hV]; exact below_box4 aV.out (by rw [HH.out]; omega) _ _ _ _)
 have a_3:=hJ (show PF v3 sa Aa na ca sb Ab nb cb p q by rw [←hV]; exact PF.box4 (a_2.out) (aA.out) (.bool t3) (.slice T3 m3 d3) (.bool t4) (.slice T4 m4 d4))
 have b_3:=hJ (show PF v3 sd Ad nd cd se Ae ne ce r s by rw [←hV]; exact PF.box4 (b_2.out) (aA.out) (.bool t3) (.slice T3 m3 d3) (.bool t4) (.slice T4 m4 d4))
 have N_3:=hJ (show PI v3 t1 T1 m1 d1 (-r) by rw [←hV]; exact PIo.box4 (N_2.out) (aA.out) rfl rfl rfl rfl (.bool t3) (.slice T3 m3 d3) (.bool t4) (.slice T4 m4 d4))
 have R_3:=hJ (show PF v3 t3 T3 m3 d3 t4 T4 m4 d4 P Q by rw [←hV]; exact PF.box4 (R_2.out) (aA.out) (.bool t3) (.slice T3 m3 d3) (.bool t4) (.slice T4 m4 d4))
 have aR:=hJ (show P4 35 v3 h (.bool sa) (.slice Aa na ca) (.bool sb) (.slice Ab nb cb) by rw [←hV]; exact aM.out.far4 (show h≠(h+1+1) from (by omega)) (.bool t3) (.slice T3 m3 d3) (.bool t4) (.slice T4 m4 d4))
 have aS:=hJ (show P4 35 v3 (h+1) (.bool sd) (.slice Ad nd cd) (.bool se) (.slice Ae ne ce) by rw [←hV]; exact aO.out.far4 (show (h+1)≠(h+1+1) from (by omega)) (.bool t3) (.slice T3 m3 d3) (.bool t4) (.slice T4 m4 d4))
 have bF:=hJ (show P4 35 v3 (h+1+1) (.bool t3) (.slice T3 m3 d3) (.bool t4) (.slice T4 m4 d4) by rw [←hV]; exact aA.out.all (.bool t3) (.slice T3 m3 d3) (.bool t4) (.slice T4 m4 d4))
 clear hHeld
 refine hK.out _ _ (⟨aR.out.cells.1,aR.out.cells.2.1,aR.out.cells.2.2.1,aR.out.cells.2.2.2,aS.out.cells.1,aS.out.cells.2.1,aS.out.cells.2.2.1,aS.out.cells.2.2.2,bB.out⟩) (fun hHeld=>?_)
 clear hK K hV z9 z0 z1 z2 z3 y0 y1 y2 y3 aV a_2 b_2 N_2 R_2 aM aO aA
 refine tq 11 ?_
 try simp only [PT]
 refine wpAnyH_done (by kernel_rfl) ?_ _
 clear hHeld
 go_wp2
 exact bodyPost_ret (results_cell1 rfl _ _ _ _ _ _ _ rfl (bF.out) Tryz.underlying35 rfl F_size) rfl (by rw [aH.out.1,aH.out.2.1,aH.out.2.2]; exact ⟨t3,T3,m3,d3,t4,T4,m4,d4,rfl,R_3.out,bB.out⟩)
def dvP (p q r s:Int):Int:=if r=0 then 0 else muP p q (mkP s r) (mkQ s r)
def dvQ (p q r s:Int):Int:=if r=0 then 1 else muQ p q (mkP s r) (mkQ s r)
def dvC (p q r s:Int):Int:=if r=0 then 1 else muC p q (mkP s r) (mkQ s r)
theorem fdiv_any (p q r s:Int) (sa sb sd se:Bool) (Aa Ab Ad Ae:Option Addr) (na ca nb cb nd cd ne ce:Nat) (w:World) (hx:PF w sa Aa na ca sb Ab nb cb p q) (hy:PF w sd Ad nd cd se Ae ne ce r s) (hq:0 < q) (hs:0 < s) (hlp:p.natAbs < lim) (hlq:q.natAbs < lim) (hlr:r.natAbs < lim) (hls:s.natAbs < lim) :
  Calls Tryz.prog 74 #[.agg #[.bool sa,.slice Aa na ca,.bool sb,.slice Ab nb cb],.agg #[.bool sd,.slice Ad nd cd,.bool se,.slice Ae ne ce]] w (RetFE (dvP p q r s) (dvQ p q r s) (dvC p q r s) w):=by
 have aB:=hJ (And.intro hq (And.intro hs (And.intro hlp (And.intro hlq (And.intro hlr hls)))))
 obtain ⟨W,hW⟩:∃ W,((w.alloc (.cells #[.bool sa,.slice Aa na ca,.bool sb,.slice Ab nb cb] 35)).alloc (.cells #[.bool sd,.slice Ad nd cd,.bool se,.slice Ae ne ce] 35)).alloc (.cells #[.bool false,.slice none 0 0,.bool false,.slice none 0 0] 35)=W:=⟨_,rfl⟩
 have HK:=hJ (show Below w.heap.size w W by rw [←hW]; exact W444_k _ _ _ _ _ _ _ _ _ _ _ _ _ _)
 have bB:=hJ (show P4 35 W w.heap.size (.bool sa) (.slice Aa na ca) (.bool sb) (.slice Ab nb cb) by rw [←hW]; exact W444_a _ _ _ _ _ _ _ _ _ _ _ _ _ _)
 have aJ:=hJ (show P4 35 W (w.heap.size+1) (.bool sd) (.slice Ad nd cd) (.bool se) (.slice Ae ne ce) by rw [←hW]; exact W444_b _ _ _ _ _ _ _ _ _ _ _ _ _ _)
 have bC:=hJ (show P4 35 W (w.heap.size+1+1) (.bool false) (.slice none 0 0) (.bool false) (.slice none 0 0) by rw [←hW]; exact W444_z _ _ _ _ _ _ _ _ _ _ _ _ _ _)
 have bM:=hJ (hx.new HK.out)
 have bN:=hJ (hy.new HK.out)
 have bU:=hJ (show PF W false none 0 0 false none 0 0 0 1 from ⟨PI.zero W,PI.zero W⟩)
 have hna:na≤512:=plim hx.1 hlp
 have hnb:nb≤512:=plim hx.2 (dn_lim hlq)
 have hnd:nd≤512:=plim hy.1 hlr
 have hne:ne≤512:=plim hy.2 (dn_lim hls)
 obtain ⟨h,hh⟩:∃ h,w.heap.size=h:=⟨_,rfl⟩
 have HH:=hJ hh
 rw [hh] at bB aJ bC
 clear hx hy hq hs hlp hlq hlr hls
 go_enter Tryz.func74,Tryz.ntmps74
 have HS:Hid (∀ w',Below W.heap.size W w'→(fun w':World=>w'.cell? ⟨(h+1),0,none⟩=some (.bool sd)∧w'.cell? ⟨(h+1),1,none⟩=some (.slice Ad nd cd)∧w'.cell? ⟨(h+1),2,none⟩=some (.bool se)∧w'.cell? ⟨(h+1),3,none⟩=some (.slice Ae ne ce)∧Below W.heap.size W w') w'):=hJ (fun w' hb=>⟨(aJ.out.new hb).cells.1,(aJ.out.new hb).cells.2.1,(aJ.out.new hb).cells.2.2.1,(aJ.out.new hb).cells.2.2.2,hb⟩)
 have bO:=hJ (Below.refl W.heap.size W)
 obtain ⟨P,hP⟩:∃ x,mkP s r=x:=⟨_,rfl⟩
 obtain ⟨Q,hQ⟩:∃ x,mkQ s r=x:=⟨_,rfl⟩
 obtain ⟨C,hC⟩:∃ x,mkC r=x:=⟨_,rfl⟩
 have aA:=hJ (And.intro hP (And.intro hQ hC))
 clear hP hQ hC
 go_upto_region 1 with fail
 clear hW hh
 go_cut [6,7] (fun tp tq wx=>∃ (G:Nat) (s1:Bool) (A1:Option Addr) (n1 c1:Nat) (s2:Bool) (A2:Option Addr) (n2 c2:Nat),tp=.pointer (some ⟨G,0,none⟩)∧tq=.int .i64 C∧P4 35 wx G (.bool s1) (.slice A1 n1 c1) (.bool s2) (.slice A2 n2 c2)∧PF wx s1 A1 n1 c1 s2 A2 n2 c2 P Q∧Below W.heap.size W wx)
 case first =>
  obtain ⟨v0,hv0⟩:=nmz (World.drew W)
  have bD:=hJ (show Below W.heap.size W v0 by rw [←hv0]; exact (Below.refl _ _).drew)
  have aK:=hJ (bt bO.out bD.out)
  have b_0:=hJ ((bN.out).new bD.out)
  refine wp_region_held_drew (S:=(fun w':World=>w'.cell? ⟨(h+1),0,none⟩=some (.bool sd)∧w'.cell? ⟨(h+1),1,none⟩=some (.slice Ad nd cd)∧w'.cell? ⟨(h+1),2,none⟩=some (.bool se)∧w'.cell? ⟨(h+1),3,none⟩=some (.slice Ae ne ce)∧Below W.heap.size W w')) (by kernel_rfl) ?_ (fun hHeld=>?_)
  ·rw [hv0]
   exact HS.out _ aK.out
  rw [hv0] at hHeld ⊢
  clear hv0 bD
  refine tq 0 ?_
  refine tq 2 ?_
  refine tq 3 ?_
  try simp only [PT]
  refine ryy [1,8] ?_
  refine .cons rfl (fun K hK=>?_) ?_
  go_simp
  go_at_call 90
  refine (den_any r s sd se Ad Ae nd cd ne ce v0 (b_0.out) (by omega) aB.out.2.1).mono ?_
  rintro e v1 ⟨t1,T1,m1,d1,rfl,hr,hk⟩
  have N_1:=hJ (hr)
  have bE:=hJ hk
  go_wp2_with fail
  have aL:=hJ (bt aK.out bE.out)
  have b_1:=hJ ((b_0.out).new bE.out)
  clear hHeld
  refine hK.out _ _ (HS.out _ aL.out) (fun hHeld=>?_)
  clear hK K hk bE hr aK b_0
  try simp only [PT]
  refine ryy [4,8] ?_
  refine .cons rfl (fun K hK=>?_) ?_
  go_simp
  go_at_call 83
  refine (fmake_any s r t1 sd T1 Ad m1 d1 nd cd v1 (N_1.out) (b_1.out.1) aB.out.2.2.2.2.2 aB.out.2.2.2.2.1).mono ?_
  rw [aA.out.1,aA.out.2.1,aA.out.2.2]
  rintro e v2 ⟨t3,T3,m3,d3,t4,T4,m4,d4,rfl,hr,hk⟩
  have R_2:=hJ (hr)
  have aV:=hJ hk
  go_wp2_with fail
  have aW:=hJ (bt aL.out aV.out)
  have b_2:=hJ ((b_1.out).new aV.out)
  have N_2:=hJ (PIo.new N_1.out aV.out)
  clear hHeld
  refine hK.out _ _ (HS.out _ aW.out) (fun hHeld=>?_)
  clear hK K hk aV hr aL b_1 N_1
  refine tq 5 ?_
  refine tq 6 ?_
  refine tq 7 ?_
  try simp only [PT]
  refine ryy [8] ?_
  refine .cons rfl (fun K hK=>?_) .nil
  go_simp
  have aM:=hJ ((Below.refl v2.heap.size v2).alloc (Nat.le_refl _) (.cells #[.bool false,.slice none 0 0,.bool false,.slice none 0 0] 35))
  have aC:=hJ (P4.lit v2 35 (.bool false) (.slice none 0 0) (.bool false) (.slice none 0 0))
  obtain ⟨v3,hV⟩:=nmz (World.alloc v2 (.cells #[.bool false,.slice none 0 0,.bool false,.slice none 0 0] 35))
  obtain ⟨gx,hg⟩:=nmz (v2.heap.size)
  rw [hV] at aM aC  ⊢
  rw [hg] at aC  ⊢
  have aO:=hJ (show W.heap.size≤gx by rw [←hg]; exact aW.out.size)
  have bF:=hJ (bt aW.out aM.out)
  have b_3:=hJ ((b_2.out).new aM.out)
  have N_3:=hJ (PIo.new N_2.out aM.out)
  have R_3:=hJ (PF.new R_2.out aM.out)
  clear hHeld
  refine hK.out _ _ (HS.out _ bF.out) (fun hHeld=>?_)
  clear hK K hV hg aM aW b_2 N_2 R_2
  try simp only [PT]
  refine ryy [9] ?_
  refine .cons rfl (fun K hK=>?_) .nil
  obtain ⟨z0,z1,z2,z3⟩:=aC.out.cells
  have y0:=aC.out.frozen 0
  have y1:=aC.out.frozen 1
  have y2:=aC.out.frozen 2
  have y3:=aC.out.frozen 3
  have z9:=aC.out.lt
  go_simp
  obtain ⟨v4,hV⟩:=nmz (World.setCell (World.setCell (World.setCell (World.setCell v3 ⟨gx,0,none⟩ (.bool t3)) ⟨gx,1,none⟩ (.slice T3 m3 d3)) ⟨gx,2,none⟩ (.bool t4)) ⟨gx,3,none⟩ (.slice T4 m4 d4))
  rw [hV]
  have bP:=hJ (show Below W.heap.size W v4 by rw [←hV]; exact below_box4 bF.out (aO.out) _ _ _ _)
  have b_4:=hJ (show PF v4 sd Ad nd cd se Ae ne ce r s by rw [←hV]; exact PF.box4 (b_3.out) (aC.out) (.bool t3) (.slice T3 m3 d3) (.bool t4) (.slice T4 m4 d4))
  have N_4:=hJ (show PI v4 t1 T1 m1 d1 s by rw [←hV]; exact PIo.box4 (N_3.out) (aC.out) rfl rfl rfl rfl (.bool t3) (.slice T3 m3 d3) (.bool t4) (.slice T4 m4 d4))
  have R_4:=hJ (show PF v4 t3 T3 m3 d3 t4 T4 m4 d4 P Q by rw [←hV]; exact PF.box4 (R_3.out) (aC.out) (.bool t3) (.slice T3 m3 d3) (.bool t4) (.slice T4 m4 d4))
  have bV:=hJ (show P4 35 v4 gx (.bool t3) (.slice T3 m3 d3) (.bool t4) (.slice T4 m4 d4) by rw [←hV]; exact aC.out.all (.bool t3) (.slice T3 m3 d3) (.bool t4) (.slice T4 m4 d4))
  clear hHeld
  refine hK.out _ _ (HS.out _ bP.out) (fun hHeld=>?_)
  clear hK K hV z9 z0 z1 z2 z3 y0 y1 y2 y3 bF b_3 N_3 R_3 aC
  refine tq 10 ?_
  try simp only [PT]
  refine wpAnyH_done (by kernel_rfl) ?_ _
  clear hHeld
  go_wp2_with fail
  go_meet
  exact ⟨gx,t3,T3,m3,d3,t4,T4,m4,d4,rfl,rfl,bV.out,R_4.out,bP.out⟩
  refine .cons rfl (fun K hK=>?_) .nil
  go_simp
  have aR:=hJ ((Below.refl v1.heap.size v1).alloc (Nat.le_refl _) (.cells #[.bool false,.slice none 0 0,.bool false,.slice none 0 0] 35))
  have aX:=hJ (P4.lit v1 35 (.bool false) (.slice none 0 0) (.bool false) (.slice none 0 0))
  obtain ⟨v5,hV⟩:=nmz (World.alloc v1 (.cells #[.bool false,.slice none 0 0,.bool false,.slice none 0 0] 35))
  obtain ⟨gx,hg⟩:=nmz (v1.heap.size)
  rw [hV] at aR aX  ⊢
  rw [hg] at aX  ⊢
  have aO:=hJ (show W.heap.size≤gx by rw [←hg]; exact aL.out.size)
  have bG:=hJ (bt aL.out aR.out)
  have b_5:=hJ ((b_1.out).new aR.out)
  have N_5:=hJ (PIo.new N_1.out aR.out)
  clear hHeld
  refine hK.out _ _ (HS.out _ bG.out) (fun hHeld=>?_)
  clear hK K hV hg aR aL b_1 N_1
  try simp only [PT]
  refine ryy [4] ?_
  refine .cons rfl (fun K hK=>?_) .nil
  go_simp
  go_at_call 83
  refine (fmake_any s r t1 sd T1 Ad m1 d1 nd cd v5 (N_5.out) (b_5.out.1) aB.out.2.2.2.2.2 aB.out.2.2.2.2.1).mono ?_
  rw [aA.out.1,aA.out.2.1,aA.out.2.2]
  rintro e v6 ⟨t3,T3,m3,d3,t4,T4,m4,d4,rfl,hr,hk⟩
  have R_6:=hJ (hr)
  have aS:=hJ hk
  go_wp2_with fail
  have bH:=hJ (bt bG.out aS.out)
  have b_6:=hJ ((b_5.out).new aS.out)
  have N_6:=hJ (PIo.new N_5.out aS.out)
  have aD:=hJ (aX.out.new aS.out)
  clear hHeld
  refine hK.out _ _ (HS.out _ bH.out) (fun hHeld=>?_)
  clear hK K hk aS hr bG b_5 N_5 aX
  refine tq 5 ?_
  refine tq 6 ?_
  refine tq 7 ?_
  try simp only [PT]
  refine ryy [9] ?_
  refine .cons rfl (fun K hK=>?_) .nil
  obtain ⟨z0,z1,z2,z3⟩:=aD.out.cells
  have y0:=aD.out.frozen 0
  have y1:=aD.out.frozen 1
  have y2:=aD.out.frozen 2
  have y3:=aD.out.frozen 3
  have z9:=aD.out.lt
  go_simp
  obtain ⟨v7,hV⟩:=nmz (World.setCell (World.setCell (World.setCell (World.setCell v6 ⟨gx,0,none⟩ (.bool t3)) ⟨gx,1,none⟩ (.slice T3 m3 d3)) ⟨gx,2,none⟩ (.bool t4)) ⟨gx,3,none⟩ (.slice T4 m4 d4))
  rw [hV]
  have bQ:=hJ (show Below W.heap.size W v7 by rw [←hV]; exact below_box4 bH.out (aO.out) _ _ _ _)
  have b_7:=hJ (show PF v7 sd Ad nd cd se Ae ne ce r s by rw [←hV]; exact PF.box4 (b_6.out) (aD.out) (.bool t3) (.slice T3 m3 d3) (.bool t4) (.slice T4 m4 d4))
  have N_7:=hJ (show PI v7 t1 T1 m1 d1 s by rw [←hV]; exact PIo.box4 (N_6.out) (aD.out) rfl rfl rfl rfl (.bool t3) (.slice T3 m3 d3) (.bool t4) (.slice T4 m4 d4))
  have R_7:=hJ (show PF v7 t3 T3 m3 d3 t4 T4 m4 d4 P Q by rw [←hV]; exact PF.box4 (R_6.out) (aD.out) (.bool t3) (.slice T3 m3 d3) (.bool t4) (.slice T4 m4 d4))
  have bW:=hJ (show P4 35 v7 gx (.bool t3) (.slice T3 m3 d3) (.bool t4) (.slice T4 m4 d4) by rw [←hV]; exact aD.out.all (.bool t3) (.slice T3 m3 d3) (.bool t4) (.slice T4 m4 d4))
  clear hHeld
  refine hK.out _ _ (HS.out _ bQ.out) (fun hHeld=>?_)
  clear hK K hV z9 z0 z1 z2 z3 y0 y1 y2 y3 bH b_6 N_6 R_6 aD
  refine tq 10 ?_
  try simp only [PT]
  refine wpAnyH_done (by kernel_rfl) ?_ _
  clear hHeld
  go_wp2_with fail
  go_meet
  exact ⟨gx,t3,T3,m3,d3,t4,T4,m4,d4,rfl,rfl,bW.out,R_7.out,bQ.out⟩
  refine .cons rfl (fun K hK=>?_) .nil
  go_simp
  have aY:=hJ ((Below.refl v0.heap.size v0).alloc (Nat.le_refl _) (.cells #[.bool false,.slice none 0 0,.bool false,.slice none 0 0] 35))
  have aZ:=hJ (P4.lit v0 35 (.bool false) (.slice none 0 0) (.bool false) (.slice none 0 0))
  obtain ⟨v8,hV⟩:=nmz (World.alloc v0 (.cells #[.bool false,.slice none 0 0,.bool false,.slice none 0 0] 35))
  obtain ⟨gx,hg⟩:=nmz (v0.heap.size)
  rw [hV] at aY aZ  ⊢
  rw [hg] at aZ  ⊢
  have aO:=hJ (show W.heap.size≤gx by rw [←hg]; exact aK.out.size)
  have bJ:=hJ (bt aK.out aY.out)
  have b_8:=hJ ((b_0.out).new aY.out)
  clear hHeld
  refine hK.out _ _ (HS.out _ bJ.out) (fun hHeld=>?_)
  clear hK K hV hg aY aK b_0
  try simp only [PT]
  refine ryy [1] ?_
  refine .cons rfl (fun K hK=>?_) .nil
  go_simp
  go_at_call 90
  refine (den_any r s sd se Ad Ae nd cd ne ce v8 (b_8.out) (by omega) aB.out.2.1).mono ?_
  rintro e v9 ⟨t1,T1,m1,d1,rfl,hr,hk⟩
  have N_9:=hJ (hr)
  have bA:=hJ hk
  go_wp2_with fail
  have bK:=hJ (bt bJ.out bA.out)
  have b_9:=hJ ((b_8.out).new bA.out)
  have bR:=hJ (aZ.out.new bA.out)
  clear hHeld
  refine hK.out _ _ (HS.out _ bK.out) (fun hHeld=>?_)
  clear hK K hk bA hr bJ b_8 aZ
  try simp only [PT]
  refine ryy [4] ?_
  refine .cons rfl (fun K hK=>?_) .nil
  go_simp
  go_at_call 83
  refine (fmake_any s r t1 sd T1 Ad m1 d1 nd cd v9 (N_9.out) (b_9.out.1) aB.out.2.2.2.2.2 aB.out.2.2.2.2.1).mono ?_
  rw [aA.out.1,aA.out.2.1,aA.out.2.2]
  rintro e v10 ⟨t3,T3,m3,d3,t4,T4,m4,d4,rfl,hr,hk⟩
  have R_10:=hJ (hr)
  have aT:=hJ hk
  go_wp2_with fail
  have bL:=hJ (bt bK.out aT.out)
  have b_10:=hJ ((b_9.out).new aT.out)
  have N_10:=hJ (PIo.new N_9.out aT.out)
  have aG:=hJ (bR.out.new aT.out)
  clear hHeld
  refine hK.out _ _ (HS.out _ bL.out) (fun hHeld=>?_)
  clear hK K hk aT hr bK b_9 N_9 bR
  refine tq 5 ?_
  refine tq 6 ?_
  refine tq 7 ?_
  try simp only [PT]
  refine ryy [9] ?_
  refine .cons rfl (fun K hK=>?_) .nil
  obtain ⟨z0,z1,z2,z3⟩:=aG.out.cells
  have y0:=aG.out.frozen 0
  have y1:=aG.out.frozen 1
  have y2:=aG.out.frozen 2
  have y3:=aG.out.frozen 3
  have z9:=aG.out.lt
  go_simp
  obtain ⟨v11,hV⟩:=nmz (World.setCell (World.setCell (World.setCell (World.setCell v10 ⟨gx,0,none⟩ (.bool t3)) ⟨gx,1,none⟩ (.slice T3 m3 d3)) ⟨gx,2,none⟩ (.bool t4)) ⟨gx,3,none⟩ (.slice T4 m4 d4))
  rw [hV]
  have bS:=hJ (show Below W.heap.size W v11 by rw [←hV]; exact below_box4 bL.out (aO.out) _ _ _ _)
  have b_11:=hJ (show PF v11 sd Ad nd cd se Ae ne ce r s by rw [←hV]; exact PF.box4 (b_10.out) (aG.out) (.bool t3) (.slice T3 m3 d3) (.bool t4) (.slice T4 m4 d4))
  have N_11:=hJ (show PI v11 t1 T1 m1 d1 s by rw [←hV]; exact PIo.box4 (N_10.out) (aG.out) rfl rfl rfl rfl (.bool t3) (.slice T3 m3 d3) (.bool t4) (.slice T4 m4 d4))
  have R_11:=hJ (show PF v11 t3 T3 m3 d3 t4 T4 m4 d4 P Q by rw [←hV]; exact PF.box4 (R_10.out) (aG.out) (.bool t3) (.slice T3 m3 d3) (.bool t4) (.slice T4 m4 d4))
  have bX:=hJ (show P4 35 v11 gx (.bool t3) (.slice T3 m3 d3) (.bool t4) (.slice T4 m4 d4) by rw [←hV]; exact aG.out.all (.bool t3) (.slice T3 m3 d3) (.bool t4) (.slice T4 m4 d4))
  clear hHeld
  refine hK.out _ _ (HS.out _ bS.out) (fun hHeld=>?_)
  clear hK K hV z9 z0 z1 z2 z3 y0 y1 y2 y3 bL b_10 N_10 R_10 aG
  refine tq 10 ?_
  try simp only [PT]
  refine wpAnyH_done (by kernel_rfl) ?_ _
  clear hHeld
  go_wp2_with fail
  go_meet
  exact ⟨gx,t3,T3,m3,d3,t4,T4,m4,d4,rfl,rfl,bX.out,R_11.out,bS.out⟩
 case rest =>
  obtain ⟨G,s1,A1,n1,c1,s2,A2,n2,c2,rfl,rfl,hq1,hr1,hbx⟩:=hcut
  have bY:=hJ hq1
  have bZ:=hJ hr1
  have aU:=hJ hbx
  obtain ⟨x1,rfl⟩:=nm_world hbx
  clear hq1 hr1 hbx HS bO
  have cA:=hJ (bB.out.new aU.out)
  have cB:=hJ (bM.out.new aU.out)
  have aH:=hJ (bC.out.new aU.out)
  have bT:=hJ (bt HK.out aU.out)
  clear bB bM aJ bN bC bU HK aU
  by_cases hr0:r=0
  ·have HC:=hJ (show C=1 by rw [←aA.out.2.2,hr0]; rfl)
   have HV:=hJ (show dvP p q r s=0∧dvQ p q r s=1∧dvC p q r s=1 from ⟨if_pos hr0,if_pos hr0,if_pos hr0⟩)
   rw [HC.out]
   clear hr0 HC
   obtain ⟨z0,z1,z2,z3⟩:=aH.out.cells
   have f0:=aH.out.frozen 0
   have f1:=aH.out.frozen 1
   have f2:=aH.out.frozen 2
   have f3:=aH.out.frozen 3
   go_wp2
   exact bodyPost_ret (results_cell1 rfl _ _ _ _ _ _ _ rfl (aH.out.all (.bool false) (.slice none 0 0) (.bool false) (.slice none 0 0)) Tryz.underlying35 rfl F_size) rfl (by rw [HV.out.1,HV.out.2.1,HV.out.2.2]; exact RetFE.stored (p:=0) (q:=1) ⟨PI.zero _,PI.zero _⟩ aH.out bT.out (by rw [HH.out]; omega) _ _ _ _)
  ·have HC:=hJ (show C=0 by rw [←aA.out.2.2]; exact if_neg hr0)
   have HV:=hJ (show dvP p q r s=muP p q P Q∧dvQ p q r s=muQ p q P Q∧dvC p q r s=muC p q P Q by rw [←aA.out.1,←aA.out.2.1]; exact ⟨if_neg hr0,if_neg hr0,if_neg hr0⟩)
   have HM:=hJ (show 0 < Q∧P.natAbs < lim∧Q.natAbs < lim by rw [←aA.out.1,←aA.out.2.1]; exact ⟨mkQ_pos,mkPQ_lim aB.out.2.2.2.2.2 aB.out.2.2.2.2.1⟩)
   rw [HC.out]
   clear hr0 HC
   obtain ⟨a0,a1,a2,a3⟩:=cA.out.cells
   obtain ⟨g0,g1,g2,g3⟩:=bY.out.cells
   go_wp2_with fail
   refine (fmul_any p q P Q sa sb s1 s2 Aa Ab A1 A2 na ca nb cb n1 c1 n2 c2 x1 cB.out bZ.out aB.out.1 HM.out.1 aB.out.2.2.1 aB.out.2.2.2.1 HM.out.2.1 HM.out.2.2).mono ?_
   rintro e w3 ⟨s3,A3,n3,c3,s4,A4,n4,c4,rfl,hr3,hb3⟩
   have cC:=hJ hr3
   have cD:=hJ (bt bT.out hb3)
   have aI:=hJ (aH.out.new hb3)
   clear hr3 hb3 a0 a1 a2 a3 g0 g1 g2 g3
   obtain ⟨z0,z1,z2,z3⟩:=aI.out.cells
   have f0:=aI.out.frozen 0
   have f1:=aI.out.frozen 1
   have f2:=aI.out.frozen 2
   have f3:=aI.out.frozen 3
   go_wp2
   exact bodyPost_ret (results_cell1 rfl _ _ _ _ _ _ _ rfl (aI.out.all (.bool s3) (.slice A3 n3 c3) (.bool s4) (.slice A4 n4 c4)) Tryz.underlying35 rfl F_size) rfl (by rw [HV.out.1,HV.out.2.1,HV.out.2.2]; exact RetFE.stored cC.out aI.out cD.out (by rw [HH.out]; omega) _ _ _ _)

end Go.Proofs.YtdgicnhadecldaaGreat
