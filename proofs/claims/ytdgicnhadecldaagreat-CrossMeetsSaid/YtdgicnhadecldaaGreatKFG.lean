/- Contracts of the program's fractions: Add. Conditions: as each statement has them. -/
import Derived.Test.YtdgicnhadecldaaGreatKFD
import Derived.Deep.DeepCutAuto
namespace Go.Proofs.YtdgicnhadecldaaGreat
set_option maxRecDepth 100000
set_option maxHeartbeats 12800000
open Go.RowKit
attribute [local go_sem ↓] Go.wp_at_zero Go.wp_at_succ
def W444 (t:TypeId) (w:World) (a0 a1 a2 a3 b0 b1 b2 b3 z0 z1 z2 z3:Value):World:=((w.alloc (.cells #[a0,a1,a2,a3] t)).alloc (.cells #[b0,b1,b2,b3] t)).alloc (.cells #[z0,z1,z2,z3] t)
section
variable (t:TypeId) (w:World) (a0 a1 a2 a3 b0 b1 b2 b3 z0 z1 z2 z3:Value)
theorem W444_a:P4 t (W444 t w a0 a1 a2 a3 b0 b1 b2 b3 z0 z1 z2 z3) w.heap.size a0 a1 a2 a3:=((P4.lit w t a0 a1 a2 a3).new ((Below.refl _ _).alloc (Nat.le_refl _) _)).new ((Below.refl _ _).alloc (Nat.le_refl _) _)
theorem W444_b:P4 t (W444 t w a0 a1 a2 a3 b0 b1 b2 b3 z0 z1 z2 z3) (w.heap.size+1) b0 b1 b2 b3:=by
 have:=P4.lit (w.alloc (.cells #[a0,a1,a2,a3] t)) t b0 b1 b2 b3
 rw [World.size_alloc] at this
 exact this.new ((Below.refl _ _).alloc (Nat.le_refl _) _)
theorem W444_z:P4 t (W444 t w a0 a1 a2 a3 b0 b1 b2 b3 z0 z1 z2 z3) (w.heap.size+1+1) z0 z1 z2 z3:=by
 have:=P4.lit ((w.alloc (.cells #[a0,a1,a2,a3] t)).alloc (.cells #[b0,b1,b2,b3] t)) t z0 z1 z2 z3
 rw [World.size_alloc,World.size_alloc] at this
 exact this
theorem W444_k:Below w.heap.size w (W444 t w a0 a1 a2 a3 b0 b1 b2 b3 z0 z1 z2 z3):=(((Below.refl _ w).alloc (Nat.le_refl _) _).alloc (by simp) _).alloc (by simp; omega) _
end
def adG (q s:Int):Int:=((Nat.gcd q.natAbs s.natAbs:Nat):Int)
def adN (p q r s:Int):Int:=p*(s / adG q s)+r*(q / adG q s)
def adD (q s:Int):Int:=q / adG q s*s
/-- Everything on the way is in range. -/
def adK (p q r s:Int):Prop:=(p*(s / adG q s)).natAbs < lim∧(r*(q / adG q s)).natAbs < lim∧(adN p q r s).natAbs < lim∧(adD q s).natAbs < lim
instance (p q r s:Int):Decidable (adK p q r s):=by unfold adK; infer_instance
def adH (p q r s:Int):Int:=((Nat.gcd (adN p q r s).natAbs (adG q s).natAbs:Nat):Int)
def adP (p q r s:Int):Int:=if adK p q r s then adN p q r s / adH p q r s else 0
def adQ (p q r s:Int):Int:=if adK p q r s then adD q s / adH p q r s else 1
def adC (p q r s:Int):Int:=if adK p q r s then 0 else 4
theorem ad_gcd {q s:Int} (hq:0 < q) (_:0 < s) (hlq:q.natAbs < lim) (hls:s.natAbs < lim):adG q s≠0∧(adG q s).natAbs < lim∧(q / adG q s).natAbs < lim∧(s / adG q s).natAbs < lim:=by
 have h1:=Nat.gcd_pos_of_pos_left s.natAbs (show 0 < q.natAbs by omega)
 have h2:=Nat.gcd_le_left s.natAbs (show 0 < q.natAbs by omega)
 refine ⟨by unfold adG; omega,by unfold adG; rw [Int.natAbs_natCast]; omega,Nat.lt_of_le_of_lt (Int.natAbs_ediv_le_natAbs _ _) hlq,Nat.lt_of_le_of_lt (Int.natAbs_ediv_le_natAbs _ _) hls⟩
theorem codes_lit4 {w:World} {t:TypeId} (a b c d:Int):Codes (w.alloc (.cells #[.int .i64 a,.int .i64 b,.int .i64 c,.int .i64 d] t)) w.heap.size [a,b,c,d]:=by
 have hh:=(P4.lit w t (.int .i64 a) (.int .i64 b) (.int .i64 c) (.int .i64 d)).cells
 intro i hi
 match i,hi with
 | 0,_=>exact hh.1
 | 1,_=>exact hh.2.1
 | 2,_=>exact hh.2.2.1
 | 3,_=>exact hh.2.2.2
theorem P2_ne_P4 {t u:TypeId} {w:World} {b c:Nat} {x0 x1 y0 y1 y2 y3:Value} (h:P2 t w b x0 x1) (k:P4 u w c y0 y1 y2 y3):b≠c:=by
 intro e
 subst e
 unfold P2 at h
 unfold P4 at k
 rw [h] at k
 injection k with k
 injection k with k
 exact absurd (congrArg Array.size k) (by simp)
theorem ad_codes {p q r s g qp sp:Int} (hg:adG q s=g) (hq:q / g=qp) (hs:s / g=sp) (h0:g≠0) (hl:g.natAbs < lim) :
  (feV [outC (p*sp),outC (r*qp),outC (outV (p*sp)+outV (r*qp)),outC (qp*s)]=0→outV (outV (p*sp)+outV (r*qp))=adN p q r s∧outV (qp*s)=adD q s∧adK p q r s∧True∧((Nat.gcd (adN p q r s).natAbs g.natAbs:Nat):Int).natAbs < lim∧((Nat.gcd (adN p q r s).natAbs g.natAbs:Nat):Int)≠0∧True∧(adD q s / ((Nat.gcd (adN p q r s).natAbs g.natAbs:Nat):Int)).natAbs < lim) ∧
  (feV [outC (p*sp),outC (r*qp),outC (outV (p*sp)+outV (r*qp)),outC (qp*s)]≠0→adP p q r s=0∧adQ p q r s=1∧adC p q r s=4∧feV [outC (p*sp),outC (r*qp),outC (outV (p*sp)+outV (r*qp)),outC (qp*s)]=4):=by
 have eN:adN p q r s=p*sp+r*qp:=by unfold adN; rw [hg,hq,hs]
 have eD:adD q s=qp*s:=by unfold adD; rw [hg,hq]
 have eK:adK p q r s↔(p*sp).natAbs < lim∧(r*qp).natAbs < lim∧(p*sp+r*qp).natAbs < lim∧(qp*s).natAbs < lim:=by
  unfold adK
  rw [eN,eD,hg,hq,hs]
 have h1:=Nat.gcd_pos_of_pos_right (adN p q r s).natAbs (show 0 < g.natAbs by omega)
 have h2:=Nat.gcd_le_right (adN p q r s).natAbs (show 0 < g.natAbs by omega)
 have no:¬ adK p q r s→adP p q r s=0∧adQ p q r s=1∧adC p q r s=4:=fun h=>⟨if_neg h,if_neg h,if_neg h⟩
 generalize p*sp=x at *
 generalize r*qp=y at *
 generalize qp*s=z at *
 rcases outVC x with ⟨a1,a2,a3⟩ | ⟨a1,a2,a3⟩
 ·rcases outVC y with ⟨b1,b2,b3⟩ | ⟨b1,b2,b3⟩
  ·rw [a2,b2,a3,b3]
   rcases outVC (x+y) with ⟨c1,c2,c3⟩ | ⟨c1,c2,c3⟩
   ·rcases outVC z with ⟨d1,d2,d3⟩ | ⟨d1,d2,d3⟩
    ·rw [c2,c3,d2,d3]
     refine ⟨fun _=>⟨eN.symm,eD.symm,eK.2 ⟨a1,b1,c1,d1⟩,trivial,by rw [Int.natAbs_natCast]; omega,by omega,trivial,?_⟩,fun h=>absurd rfl h⟩
     refine Nat.lt_of_le_of_lt (Int.natAbs_ediv_le_natAbs _ _) ?_
     rw [eD]
     exact d1
    rw [c3,d3]
    exact ⟨fun h=>by simp [feV] at h,fun _=>⟨(no (fun k=>d1 (eK.1 k).2.2.2)).1,(no (fun k=>d1 (eK.1 k).2.2.2)).2.1,(no (fun k=>d1 (eK.1 k).2.2.2)).2.2,by simp [feV]⟩⟩
   rw [c3]
   exact ⟨fun h=>by simp [feV] at h,fun _=>⟨(no (fun k=>c1 (eK.1 k).2.2.1)).1,(no (fun k=>c1 (eK.1 k).2.2.1)).2.1,(no (fun k=>c1 (eK.1 k).2.2.1)).2.2,by simp [feV]⟩⟩
  rw [a3,b3]
  exact ⟨fun h=>by simp [feV] at h,fun _=>⟨(no (fun k=>b1 (eK.1 k).2.1)).1,(no (fun k=>b1 (eK.1 k).2.1)).2.1,(no (fun k=>b1 (eK.1 k).2.1)).2.2,by simp [feV]⟩⟩
 ·rw [a3]
  exact ⟨fun h=>by simp [feV] at h,fun _=>⟨(no (fun k=>a1 (eK.1 k).1)).1,(no (fun k=>a1 (eK.1 k).1)).2.1,(no (fun k=>a1 (eK.1 k).1)).2.2,by simp [feV]⟩⟩
theorem ad_ok {p q r s N D g H:Int} (hk:adK p q r s) (_:True) (hN:adN p q r s=N) (hD:adD q s=D) (hg:adG q s=g) (hH:((Nat.gcd N.natAbs g.natAbs:Nat):Int)=H):adP p q r s=N / H∧adQ p q r s=D / H∧adC p q r s=0:=by
 have e:adH p q r s=H:=by unfold adH; rw [hN,hg,hH]
 exact ⟨by unfold adP; rw [if_pos hk,hN,e],by unfold adQ; rw [if_pos hk,hD,e],if_pos hk⟩
theorem fadd_any (p q r s:Int) (sa sb sd se:Bool) (Aa Ab Ad Ae:Option Addr) (na ca nb cb nd cd ne ce:Nat) (w:World) (hx:PF w sa Aa na ca sb Ab nb cb p q) (hy:PF w sd Ad nd cd se Ae ne ce r s) (hq:0 < q) (hs:0 < s) (hlp:p.natAbs < lim) (hlq:q.natAbs < lim) (hlr:r.natAbs < lim) (hls:s.natAbs < lim) :
  Calls Tryz.prog 67 #[.agg #[.bool sa,.slice Aa na ca,.bool sb,.slice Ab nb cb],.agg #[.bool sd,.slice Ad nd cd,.bool se,.slice Ae ne ce]] w (RetFE (adP p q r s) (adQ p q r s) (adC p q r s) w):=by
 have bB:=hJ (And.intro hq (And.intro hs (And.intro hlp (And.intro hlq (And.intro hlr hls)))))
 obtain ⟨W,hW⟩:∃ W,((w.alloc (.cells #[.bool sa,.slice Aa na ca,.bool sb,.slice Ab nb cb] 35)).alloc (.cells #[.bool sd,.slice Ad nd cd,.bool se,.slice Ae ne ce] 35)).alloc (.cells #[.bool false,.slice none 0 0,.bool false,.slice none 0 0] 35)=W:=⟨_,rfl⟩
 have HK:=hJ (show Below w.heap.size w W by rw [←hW]; exact W444_k _ _ _ _ _ _ _ _ _ _ _ _ _ _)
 have cK:=hJ (show P4 35 W w.heap.size (.bool sa) (.slice Aa na ca) (.bool sb) (.slice Ab nb cb) by rw [←hW]; exact W444_a _ _ _ _ _ _ _ _ _ _ _ _ _ _)
 have cL:=hJ (show P4 35 W (w.heap.size+1) (.bool sd) (.slice Ad nd cd) (.bool se) (.slice Ae ne ce) by rw [←hW]; exact W444_b _ _ _ _ _ _ _ _ _ _ _ _ _ _)
 have fQ:=hJ (show P4 35 W (w.heap.size+1+1) (.bool false) (.slice none 0 0) (.bool false) (.slice none 0 0) by rw [←hW]; exact W444_z _ _ _ _ _ _ _ _ _ _ _ _ _ _)
 have fR:=hJ (hx.new HK.out)
 have fS:=hJ (hy.new HK.out)
 have hY:=hJ (show PF W false none 0 0 false none 0 0 0 1 from ⟨PI.zero W,PI.zero W⟩)
 have hna:na≤512:=plim hx.1 hlp
 have hnb:nb≤512:=plim hx.2 (dn_lim hlq)
 have hnd:nd≤512:=plim hy.1 hlr
 have hne:ne≤512:=plim hy.2 (dn_lim hls)
 obtain ⟨h,hh⟩:∃ h,w.heap.size=h:=⟨_,rfl⟩
 have HH:=hJ hh
 rw [hh] at cK cL fQ
 clear hx hy hq hs hlp hlq hlr hls
 go_enter Tryz.func67,Tryz.ntmps67
 have aD:Hid (∀ w',Below W.heap.size W w'→(fun w':World=>w'.cell? ⟨h,0,none⟩=some (.bool sa)∧w'.cell? ⟨h,1,none⟩=some (.slice Aa na ca)∧w'.cell? ⟨h,2,none⟩=some (.bool sb)∧w'.cell? ⟨h,3,none⟩=some (.slice Ab nb cb)∧w'.cell? ⟨(h+1),0,none⟩=some (.bool sd)∧w'.cell? ⟨(h+1),1,none⟩=some (.slice Ad nd cd)∧w'.cell? ⟨(h+1),2,none⟩=some (.bool se)∧w'.cell? ⟨(h+1),3,none⟩=some (.slice Ae ne ce)∧Below W.heap.size W w') w'):=hJ (fun w' hb=>⟨(cK.out.new hb).cells.1,(cK.out.new hb).cells.2.1,(cK.out.new hb).cells.2.2.1,(cK.out.new hb).cells.2.2.2,(cL.out.new hb).cells.1,(cL.out.new hb).cells.2.1,(cL.out.new hb).cells.2.2.1,(cL.out.new hb).cells.2.2.2,hb⟩)
 have hZ:=hJ (Below.refl W.heap.size W)
 go_upto_region 1 with fail
 clear hW hh
 go_cut [6,7] (fun tp tq wx=>∃ (G H:Nat) (s2a:Bool) (A2a:Option Addr) (n2a c2a:Nat) (s2b:Bool) (A2b:Option Addr) (n2b c2b:Nat),tp=.pointer (some ⟨G,0,none⟩)∧tq=.pointer (some ⟨H,0,none⟩)∧P2 33 wx G (.bool s2a) (.slice A2a n2a c2a)∧P2 33 wx H (.bool s2b) (.slice A2b n2b c2b)∧PI wx s2a A2a n2a c2a (q)∧PI wx s2b A2b n2b c2b (s)∧Below W.heap.size W wx)
 case first =>
  have cM:=hZ
  obtain ⟨v0,hv0⟩:=nmz (World.drew W)
  have aH:=hJ (show Below W.heap.size W v0 by rw [←hv0]; exact (Below.refl _ _).drew)
  have a_0:=hJ ((fR.out).new aH.out)
  have b_0:=hJ ((fS.out).new aH.out)
  refine wp_region_held_drew (S:=(fun w':World=>w'.cell? ⟨h,0,none⟩=some (.bool sa)∧w'.cell? ⟨h,1,none⟩=some (.slice Aa na ca)∧w'.cell? ⟨h,2,none⟩=some (.bool sb)∧w'.cell? ⟨h,3,none⟩=some (.slice Ab nb cb)∧w'.cell? ⟨(h+1),0,none⟩=some (.bool sd)∧w'.cell? ⟨(h+1),1,none⟩=some (.slice Ad nd cd)∧w'.cell? ⟨(h+1),2,none⟩=some (.bool se)∧w'.cell? ⟨(h+1),3,none⟩=some (.slice Ae ne ce)∧Below W.heap.size W w')) (by kernel_rfl) ?_ (fun hHeld=>?_)
  ·rw [hv0]
   exact aD.out _ aH.out
  rw [hv0] at hHeld ⊢
  clear hv0 cM
  refine tq 0 ?_
  refine tq 2 ?_
  try simp only [PT]
  refine wpAnyH_name (fun F hF a0 ha0 L0 hL0=>?_)
  have dA:∀ (s2a:Bool) (A2a:Option Addr) (n2a:Nat) (c2a:Nat) (s2b:Bool) (A2b:Option Addr) (n2b:Nat) (c2b:Nat) (gx:Nat) (gy:Nat) (v:World),Hid (Below W.heap.size W v)→Hid (PF v sa Aa na ca sb Ab nb cb p q)→Hid (PF v sd Ad nd cd se Ae ne ce r s)→Hid (PI v s2a A2a n2a c2a (q))→Hid (PI v s2b A2b n2b c2b (s))→Hid (P2 33 v gx (.bool false) (.slice none 0 0))→Hid (W.heap.size≤gx)→Hid (P2 33 v gy (.bool false) (.slice none 0 0))→Hid (W.heap.size≤gy)→Hid (gx≠gy)→F 2 (Array.setIfInBounds (Array.setIfInBounds (Array.setIfInBounds (Array.setIfInBounds L0 1 true) 3 true) 4 true) 5 true) (Act.put (Act.put (Act.put (Act.put a0 (some 22) (.agg #[.bool s2a,.slice A2a n2a c2a])) (some 24) (.agg #[.bool s2b,.slice A2b n2b c2b])) (some 6) (.pointer (some ⟨gx,0,none⟩))) (some 7) (.pointer (some ⟨gy,0,none⟩))) v:=by
   intro s2a A2a n2a c2a s2b A2b n2b c2b gx gy v aA a_j b_j N0_j N1_j aB aJ aC aK bR
   subst hF ha0 hL0
   simp only [PT] at  ⊢
   have hHeld:=aD.out _ aA.out
   refine ryy [6] ?_
   refine .cons rfl (fun K hK=>?_) .nil
   obtain ⟨z0,z1⟩:=aB.out.cells
   have y0:=aB.out.frozen 0
   have y1:=aB.out.frozen 1
   have z9:=aB.out.lt
   go_simp
   obtain ⟨v1,hV⟩:=nmz (World.setCell (World.setCell v ⟨gx,0,none⟩ (.bool s2a)) ⟨gx,1,none⟩ (.slice A2a n2a c2a))
   rw [hV]
   have bY:=hJ (show Below W.heap.size W v1 by rw [←hV]; exact below_box aA.out (aJ.out) _ _)
   have a_1:=hJ (show PF v1 sa Aa na ca sb Ab nb cb p q by rw [←hV]; exact PF.box (a_j.out) (aB.out) (.bool s2a) (.slice A2a n2a c2a))
   have b_1:=hJ (show PF v1 sd Ad nd cd se Ae ne ce r s by rw [←hV]; exact PF.box (b_j.out) (aB.out) (.bool s2a) (.slice A2a n2a c2a))
   have N0_1:=hJ (show PI v1 s2a A2a n2a c2a (q) by rw [←hV]; exact PIo.box (N0_j.out) (aB.out) rfl rfl (.bool s2a) (.slice A2a n2a c2a))
   have N1_1:=hJ (show PI v1 s2b A2b n2b c2b (s) by rw [←hV]; exact PIo.box (N1_j.out) (aB.out) rfl rfl (.bool s2a) (.slice A2a n2a c2a))
   have aS:=hJ (show P2 33 v1 gy (.bool false) (.slice none 0 0) by rw [←hV]; exact aC.out.far2 (show gy≠gx from bR.out.symm) (.bool s2a) (.slice A2a n2a c2a))
   have dG:=hJ (show P2 33 v1 gx (.bool s2a) (.slice A2a n2a c2a) by rw [←hV]; exact aB.out.all (.bool s2a) (.slice A2a n2a c2a))
   clear hHeld
   refine hK.out _ _ (aD.out _ bY.out) (fun hHeld=>?_)
   clear hK K hV z9 z0 z1 y0 y1 aA a_j b_j N0_j N1_j aC aB
   try simp only [PT]
   refine ryy [7] ?_
   refine .cons rfl (fun K hK=>?_) .nil
   obtain ⟨z0,z1⟩:=aS.out.cells
   have y0:=aS.out.frozen 0
   have y1:=aS.out.frozen 1
   have z9:=aS.out.lt
   go_simp
   obtain ⟨v2,hV⟩:=nmz (World.setCell (World.setCell v1 ⟨gy,0,none⟩ (.bool s2b)) ⟨gy,1,none⟩ (.slice A2b n2b c2b))
   rw [hV]
   have cD:=hJ (show Below W.heap.size W v2 by rw [←hV]; exact below_box bY.out (aK.out) _ _)
   have a_2:=hJ (show PF v2 sa Aa na ca sb Ab nb cb p q by rw [←hV]; exact PF.box (a_1.out) (aS.out) (.bool s2b) (.slice A2b n2b c2b))
   have b_2:=hJ (show PF v2 sd Ad nd cd se Ae ne ce r s by rw [←hV]; exact PF.box (b_1.out) (aS.out) (.bool s2b) (.slice A2b n2b c2b))
   have N0_2:=hJ (show PI v2 s2a A2a n2a c2a (q) by rw [←hV]; exact PIo.box (N0_1.out) (aS.out) rfl rfl (.bool s2b) (.slice A2b n2b c2b))
   have N1_2:=hJ (show PI v2 s2b A2b n2b c2b (s) by rw [←hV]; exact PIo.box (N1_1.out) (aS.out) rfl rfl (.bool s2b) (.slice A2b n2b c2b))
   have fT:=hJ (show P2 33 v2 gx (.bool s2a) (.slice A2a n2a c2a) by rw [←hV]; exact dG.out.far2 (show gx≠gy from bR.out) (.bool s2b) (.slice A2b n2b c2b))
   have fU:=hJ (show P2 33 v2 gy (.bool s2b) (.slice A2b n2b c2b) by rw [←hV]; exact aS.out.all (.bool s2b) (.slice A2b n2b c2b))
   clear hHeld
   refine hK.out _ _ (aD.out _ cD.out) (fun hHeld=>?_)
   clear hK K hV z9 z0 z1 y0 y1 bY a_1 b_1 N0_1 N1_1 dG aS
   try simp only [PT]
   refine wpAnyH_done (by kernel_rfl) ?_ _
   clear hHeld
   go_wp2_with fail
   go_meet
   exact ⟨gx,gy,s2a,A2a,n2a,c2a,s2b,A2b,n2b,c2b,rfl,rfl,fT.out,fU.out,N0_2.out,N1_2.out,cD.out⟩
  have eD:∀ (s2a:Bool) (A2a:Option Addr) (n2a:Nat) (c2a:Nat) (s2b:Bool) (A2b:Option Addr) (n2b:Nat) (c2b:Nat) (gx:Nat) (v:World),Hid (Below W.heap.size W v)→Hid (PF v sa Aa na ca sb Ab nb cb p q)→Hid (PF v sd Ad nd cd se Ae ne ce r s)→Hid (PI v s2a A2a n2a c2a (q))→Hid (PI v s2b A2b n2b c2b (s))→Hid (P2 33 v gx (.bool false) (.slice none 0 0))→Hid (W.heap.size≤gx)→F 3 (Array.setIfInBounds (Array.setIfInBounds (Array.setIfInBounds L0 1 true) 3 true) 4 true) (Act.put (Act.put (Act.put a0 (some 22) (.agg #[.bool s2a,.slice A2a n2a c2a])) (some 24) (.agg #[.bool s2b,.slice A2b n2b c2b])) (some 6) (.pointer (some ⟨gx,0,none⟩))) v:=by
   intro s2a A2a n2a c2a s2b A2b n2b c2b gx v aA a_j b_j N0_j N1_j aB aJ
   subst hF ha0 hL0
   simp only [PT] at dA ⊢
   have hHeld:=aD.out _ aA.out
   refine ryy [5] ?_
   refine .cons rfl (fun K hK=>?_) .nil
   go_simp
   have aI:=hJ ((Below.refl v.heap.size v).alloc (Nat.le_refl _) (.cells #[.bool false,.slice none 0 0] 33))
   have cN:=hJ (P2.lit v 33 (.bool false) (.slice none 0 0))
   obtain ⟨v3,hV⟩:=nmz (World.alloc v (.cells #[.bool false,.slice none 0 0] 33))
   obtain ⟨gy,hg⟩:=nmz (v.heap.size)
   rw [hV] at aI cN  ⊢
   rw [hg] at cN  ⊢
   have aO:=hJ (show W.heap.size≤gy by rw [←hg]; exact aA.out.size)
   have bZ:=hJ (show gx≠gy by have:=aB.out.lt; rw [hg] at this; omega)
   have cE:=hJ (bt aA.out aI.out)
   have a_3:=hJ ((a_j.out).new aI.out)
   have b_3:=hJ ((b_j.out).new aI.out)
   have N0_3:=hJ (PIo.new N0_j.out aI.out)
   have N1_3:=hJ (PIo.new N1_j.out aI.out)
   have fV:=hJ (aB.out.new aI.out)
   clear hHeld
   refine hK.out _ _ (aD.out _ cE.out) (fun hHeld=>?_)
   clear hK K hV hg aI aA a_j b_j N0_j N1_j aB
   try simp only [PT]
   exact wpAnyH_cast (by kernel_rfl) (dA s2a A2a n2a c2a s2b A2b n2b c2b gx gy v3 cE a_3 b_3 N0_3 N1_3 fV (hJ (aJ.out)) cN (hJ (aO.out)) (hJ (bZ.out)))
  have eE:∀ (s2a:Bool) (A2a:Option Addr) (n2a:Nat) (c2a:Nat) (s2b:Bool) (A2b:Option Addr) (n2b:Nat) (c2b:Nat) (gy:Nat) (v:World),Hid (Below W.heap.size W v)→Hid (PF v sa Aa na ca sb Ab nb cb p q)→Hid (PF v sd Ad nd cd se Ae ne ce r s)→Hid (PI v s2a A2a n2a c2a (q))→Hid (PI v s2b A2b n2b c2b (s))→Hid (P2 33 v gy (.bool false) (.slice none 0 0))→Hid (W.heap.size≤gy)→F 3 (Array.setIfInBounds (Array.setIfInBounds (Array.setIfInBounds L0 1 true) 3 true) 5 true) (Act.put (Act.put (Act.put a0 (some 22) (.agg #[.bool s2a,.slice A2a n2a c2a])) (some 24) (.agg #[.bool s2b,.slice A2b n2b c2b])) (some 7) (.pointer (some ⟨gy,0,none⟩))) v:=by
   intro s2a A2a n2a c2a s2b A2b n2b c2b gy v aA a_j b_j N0_j N1_j aC aK
   subst hF ha0 hL0
   simp only [PT] at dA ⊢
   have hHeld:=aD.out _ aA.out
   refine ryy [4] ?_
   refine .cons rfl (fun K hK=>?_) .nil
   go_simp
   have aX:=hJ ((Below.refl v.heap.size v).alloc (Nat.le_refl _) (.cells #[.bool false,.slice none 0 0] 33))
   have cO:=hJ (P2.lit v 33 (.bool false) (.slice none 0 0))
   obtain ⟨v4,hV⟩:=nmz (World.alloc v (.cells #[.bool false,.slice none 0 0] 33))
   obtain ⟨gx,hg⟩:=nmz (v.heap.size)
   rw [hV] at aX cO  ⊢
   rw [hg] at cO  ⊢
   have aR:=hJ (show W.heap.size≤gx by rw [←hg]; exact aA.out.size)
   have cA:=hJ (show gy≠gx by have:=aC.out.lt; rw [hg] at this; omega)
   have cH:=hJ (bt aA.out aX.out)
   have a_4:=hJ ((a_j.out).new aX.out)
   have b_4:=hJ ((b_j.out).new aX.out)
   have N0_4:=hJ (PIo.new N0_j.out aX.out)
   have N1_4:=hJ (PIo.new N1_j.out aX.out)
   have fW:=hJ (aC.out.new aX.out)
   clear hHeld
   refine hK.out _ _ (aD.out _ cH.out) (fun hHeld=>?_)
   clear hK K hV hg aX aA a_j b_j N0_j N1_j aC
   try simp only [PT]
   exact wpAnyH_cast (by kernel_rfl) (dA s2a A2a n2a c2a s2b A2b n2b c2b gx gy v4 cH a_4 b_4 N0_4 N1_4 cO (hJ (aR.out)) fW (hJ (aK.out)) (hJ (cA.out.symm)))
  have dB:∀ (s2a:Bool) (A2a:Option Addr) (n2a:Nat) (c2a:Nat) (gx:Nat) (gy:Nat) (v:World),Hid (Below W.heap.size W v)→Hid (PF v sa Aa na ca sb Ab nb cb p q)→Hid (PF v sd Ad nd cd se Ae ne ce r s)→Hid (PI v s2a A2a n2a c2a (q))→Hid (P2 33 v gx (.bool false) (.slice none 0 0))→Hid (W.heap.size≤gx)→Hid (P2 33 v gy (.bool false) (.slice none 0 0))→Hid (W.heap.size≤gy)→Hid (gx≠gy)→F 3 (Array.setIfInBounds (Array.setIfInBounds (Array.setIfInBounds L0 1 true) 4 true) 5 true) (Act.put (Act.put (Act.put a0 (some 22) (.agg #[.bool s2a,.slice A2a n2a c2a])) (some 6) (.pointer (some ⟨gx,0,none⟩))) (some 7) (.pointer (some ⟨gy,0,none⟩))) v:=by
   intro s2a A2a n2a c2a gx gy v aA a_j b_j N0_j aB aJ aC aK bR
   subst hF ha0 hL0
   simp only [PT] at dA ⊢
   have hHeld:=aD.out _ aA.out
   refine ryy [3] ?_
   refine .cons rfl (fun K hK=>?_) .nil
   go_simp
   go_at_call_of 90 (#[Value.agg #[.bool sd,.slice Ad nd cd,.bool se,.slice Ae ne ce]])
   refine (den_any r s sd se Ad Ae nd cd ne ce v (b_j.out) (by omega) bB.out.2.1).mono ?_
   rintro e v5 ⟨s2b,A2b,n2b,c2b,rfl,hr,hk⟩
   have N1_5:=hJ (hr)
   have bC:=hJ hk
   go_wp2_with fail
   have dH:=hJ (bt aA.out bC.out)
   have a_5:=hJ ((a_j.out).new bC.out)
   have b_5:=hJ ((b_j.out).new bC.out)
   have N0_5:=hJ (PIo.new N0_j.out bC.out)
   have fX:=hJ (aB.out.new bC.out)
   have fY:=hJ (aC.out.new bC.out)
   clear hHeld
   refine hK.out _ _ (aD.out _ dH.out) (fun hHeld=>?_)
   clear hK K hk bC hr aA a_j b_j N0_j aB aC
   try simp only [PT]
   exact wpAnyH_cast (by kernel_rfl) (dA s2a A2a n2a c2a s2b A2b n2b c2b gx gy v5 dH a_5 b_5 N0_5 N1_5 fX (hJ (aJ.out)) fY (hJ (aK.out)) (hJ (bR.out)))
  have iA:∀ (s2a:Bool) (A2a:Option Addr) (n2a:Nat) (c2a:Nat) (s2b:Bool) (A2b:Option Addr) (n2b:Nat) (c2b:Nat) (v:World),Hid (Below W.heap.size W v)→Hid (PF v sa Aa na ca sb Ab nb cb p q)→Hid (PF v sd Ad nd cd se Ae ne ce r s)→Hid (PI v s2a A2a n2a c2a (q))→Hid (PI v s2b A2b n2b c2b (s))→F 4 (Array.setIfInBounds (Array.setIfInBounds L0 1 true) 3 true) (Act.put (Act.put a0 (some 22) (.agg #[.bool s2a,.slice A2a n2a c2a])) (some 24) (.agg #[.bool s2b,.slice A2b n2b c2b])) v:=by
   intro s2a A2a n2a c2a s2b A2b n2b c2b v aA a_j b_j N0_j N1_j
   subst hF ha0 hL0
   simp only [PT] at eD eE ⊢
   have hHeld:=aD.out _ aA.out
   refine ryy [4,5] ?_
   refine .cons rfl (fun K hK=>?_) ?_
   go_simp
   have bD:=hJ ((Below.refl v.heap.size v).alloc (Nat.le_refl _) (.cells #[.bool false,.slice none 0 0] 33))
   have cP:=hJ (P2.lit v 33 (.bool false) (.slice none 0 0))
   obtain ⟨v6,hV⟩:=nmz (World.alloc v (.cells #[.bool false,.slice none 0 0] 33))
   obtain ⟨gx,hg⟩:=nmz (v.heap.size)
   rw [hV] at bD cP  ⊢
   rw [hg] at cP  ⊢
   have aR:=hJ (show W.heap.size≤gx by rw [←hg]; exact aA.out.size)
   have dI:=hJ (bt aA.out bD.out)
   have a_6:=hJ ((a_j.out).new bD.out)
   have b_6:=hJ ((b_j.out).new bD.out)
   have N0_6:=hJ (PIo.new N0_j.out bD.out)
   have N1_6:=hJ (PIo.new N1_j.out bD.out)
   clear hHeld
   refine hK.out _ _ (aD.out _ dI.out) (fun hHeld=>?_)
   clear hK K hV hg bD aA a_j b_j N0_j N1_j
   try simp only [PT]
   exact wpAnyH_cast (by kernel_rfl) (eD s2a A2a n2a c2a s2b A2b n2b c2b gx v6 dI a_6 b_6 N0_6 N1_6 cP (hJ (aR.out)))
   refine .cons rfl (fun K hK=>?_) .nil
   go_simp
   have bE:=hJ ((Below.refl v.heap.size v).alloc (Nat.le_refl _) (.cells #[.bool false,.slice none 0 0] 33))
   have cQ:=hJ (P2.lit v 33 (.bool false) (.slice none 0 0))
   obtain ⟨v7,hV⟩:=nmz (World.alloc v (.cells #[.bool false,.slice none 0 0] 33))
   obtain ⟨gy,hg⟩:=nmz (v.heap.size)
   rw [hV] at bE cQ  ⊢
   rw [hg] at cQ  ⊢
   have aO:=hJ (show W.heap.size≤gy by rw [←hg]; exact aA.out.size)
   have dJ:=hJ (bt aA.out bE.out)
   have a_7:=hJ ((a_j.out).new bE.out)
   have b_7:=hJ ((b_j.out).new bE.out)
   have N0_7:=hJ (PIo.new N0_j.out bE.out)
   have N1_7:=hJ (PIo.new N1_j.out bE.out)
   clear hHeld
   refine hK.out _ _ (aD.out _ dJ.out) (fun hHeld=>?_)
   clear hK K hV hg bE aA a_j b_j N0_j N1_j
   try simp only [PT]
   exact wpAnyH_cast (by kernel_rfl) (eE s2a A2a n2a c2a s2b A2b n2b c2b gy v7 dJ a_7 b_7 N0_7 N1_7 cQ (hJ (aO.out)))
  have eF:∀ (s2a:Bool) (A2a:Option Addr) (n2a:Nat) (c2a:Nat) (gx:Nat) (v:World),Hid (Below W.heap.size W v)→Hid (PF v sa Aa na ca sb Ab nb cb p q)→Hid (PF v sd Ad nd cd se Ae ne ce r s)→Hid (PI v s2a A2a n2a c2a (q))→Hid (P2 33 v gx (.bool false) (.slice none 0 0))→Hid (W.heap.size≤gx)→F 4 (Array.setIfInBounds (Array.setIfInBounds L0 1 true) 4 true) (Act.put (Act.put a0 (some 22) (.agg #[.bool s2a,.slice A2a n2a c2a])) (some 6) (.pointer (some ⟨gx,0,none⟩))) v:=by
   intro s2a A2a n2a c2a gx v aA a_j b_j N0_j aB aJ
   subst hF ha0 hL0
   simp only [PT] at eD dB ⊢
   have hHeld:=aD.out _ aA.out
   refine ryy [3,5] ?_
   refine .cons rfl (fun K hK=>?_) ?_
   go_simp
   go_at_call_of 90 (#[Value.agg #[.bool sd,.slice Ad nd cd,.bool se,.slice Ae ne ce]])
   refine (den_any r s sd se Ad Ae nd cd ne ce v (b_j.out) (by omega) bB.out.2.1).mono ?_
   rintro e v8 ⟨s2b,A2b,n2b,c2b,rfl,hr,hk⟩
   have N1_8:=hJ (hr)
   have bH:=hJ hk
   go_wp2_with fail
   have dK:=hJ (bt aA.out bH.out)
   have a_8:=hJ ((a_j.out).new bH.out)
   have b_8:=hJ ((b_j.out).new bH.out)
   have N0_8:=hJ (PIo.new N0_j.out bH.out)
   have fZ:=hJ (aB.out.new bH.out)
   clear hHeld
   refine hK.out _ _ (aD.out _ dK.out) (fun hHeld=>?_)
   clear hK K hk bH hr aA a_j b_j N0_j aB
   try simp only [PT]
   exact wpAnyH_cast (by kernel_rfl) (eD s2a A2a n2a c2a s2b A2b n2b c2b gx v8 dK a_8 b_8 N0_8 N1_8 fZ (hJ (aJ.out)))
   refine .cons rfl (fun K hK=>?_) .nil
   go_simp
   have bF:=hJ ((Below.refl v.heap.size v).alloc (Nat.le_refl _) (.cells #[.bool false,.slice none 0 0] 33))
   have cR:=hJ (P2.lit v 33 (.bool false) (.slice none 0 0))
   obtain ⟨v9,hV⟩:=nmz (World.alloc v (.cells #[.bool false,.slice none 0 0] 33))
   obtain ⟨gy,hg⟩:=nmz (v.heap.size)
   rw [hV] at bF cR  ⊢
   rw [hg] at cR  ⊢
   have aO:=hJ (show W.heap.size≤gy by rw [←hg]; exact aA.out.size)
   have bZ:=hJ (show gx≠gy by have:=aB.out.lt; rw [hg] at this; omega)
   have dL:=hJ (bt aA.out bF.out)
   have a_9:=hJ ((a_j.out).new bF.out)
   have b_9:=hJ ((b_j.out).new bF.out)
   have N0_9:=hJ (PIo.new N0_j.out bF.out)
   have gA:=hJ (aB.out.new bF.out)
   clear hHeld
   refine hK.out _ _ (aD.out _ dL.out) (fun hHeld=>?_)
   clear hK K hV hg bF aA a_j b_j N0_j aB
   try simp only [PT]
   exact wpAnyH_cast (by kernel_rfl) (dB s2a A2a n2a c2a gx gy v9 dL a_9 b_9 N0_9 gA (hJ (aJ.out)) cR (hJ (aO.out)) (hJ (bZ.out)))
  have eG:∀ (s2a:Bool) (A2a:Option Addr) (n2a:Nat) (c2a:Nat) (gy:Nat) (v:World),Hid (Below W.heap.size W v)→Hid (PF v sa Aa na ca sb Ab nb cb p q)→Hid (PF v sd Ad nd cd se Ae ne ce r s)→Hid (PI v s2a A2a n2a c2a (q))→Hid (P2 33 v gy (.bool false) (.slice none 0 0))→Hid (W.heap.size≤gy)→F 4 (Array.setIfInBounds (Array.setIfInBounds L0 1 true) 5 true) (Act.put (Act.put a0 (some 22) (.agg #[.bool s2a,.slice A2a n2a c2a])) (some 7) (.pointer (some ⟨gy,0,none⟩))) v:=by
   intro s2a A2a n2a c2a gy v aA a_j b_j N0_j aC aK
   subst hF ha0 hL0
   simp only [PT] at eE dB ⊢
   have hHeld:=aD.out _ aA.out
   refine ryy [3,4] ?_
   refine .cons rfl (fun K hK=>?_) ?_
   go_simp
   go_at_call_of 90 (#[Value.agg #[.bool sd,.slice Ad nd cd,.bool se,.slice Ae ne ce]])
   refine (den_any r s sd se Ad Ae nd cd ne ce v (b_j.out) (by omega) bB.out.2.1).mono ?_
   rintro e v10 ⟨s2b,A2b,n2b,c2b,rfl,hr,hk⟩
   have N1_10:=hJ (hr)
   have bJ:=hJ hk
   go_wp2_with fail
   have dM:=hJ (bt aA.out bJ.out)
   have a_10:=hJ ((a_j.out).new bJ.out)
   have b_10:=hJ ((b_j.out).new bJ.out)
   have N0_10:=hJ (PIo.new N0_j.out bJ.out)
   have gB:=hJ (aC.out.new bJ.out)
   clear hHeld
   refine hK.out _ _ (aD.out _ dM.out) (fun hHeld=>?_)
   clear hK K hk bJ hr aA a_j b_j N0_j aC
   try simp only [PT]
   exact wpAnyH_cast (by kernel_rfl) (eE s2a A2a n2a c2a s2b A2b n2b c2b gy v10 dM a_10 b_10 N0_10 N1_10 gB (hJ (aK.out)))
   refine .cons rfl (fun K hK=>?_) .nil
   go_simp
   have bG:=hJ ((Below.refl v.heap.size v).alloc (Nat.le_refl _) (.cells #[.bool false,.slice none 0 0] 33))
   have cS:=hJ (P2.lit v 33 (.bool false) (.slice none 0 0))
   obtain ⟨v11,hV⟩:=nmz (World.alloc v (.cells #[.bool false,.slice none 0 0] 33))
   obtain ⟨gx,hg⟩:=nmz (v.heap.size)
   rw [hV] at bG cS  ⊢
   rw [hg] at cS  ⊢
   have aR:=hJ (show W.heap.size≤gx by rw [←hg]; exact aA.out.size)
   have cA:=hJ (show gy≠gx by have:=aC.out.lt; rw [hg] at this; omega)
   have dN:=hJ (bt aA.out bG.out)
   have a_11:=hJ ((a_j.out).new bG.out)
   have b_11:=hJ ((b_j.out).new bG.out)
   have N0_11:=hJ (PIo.new N0_j.out bG.out)
   have gC:=hJ (aC.out.new bG.out)
   clear hHeld
   refine hK.out _ _ (aD.out _ dN.out) (fun hHeld=>?_)
   clear hK K hV hg bG aA a_j b_j N0_j aC
   try simp only [PT]
   exact wpAnyH_cast (by kernel_rfl) (dB s2a A2a n2a c2a gx gy v11 dN a_11 b_11 N0_11 cS (hJ (aR.out)) gC (hJ (aK.out)) (hJ (cA.out.symm)))
  have eH:∀ (gx:Nat) (gy:Nat) (v:World),Hid (Below W.heap.size W v)→Hid (PF v sa Aa na ca sb Ab nb cb p q)→Hid (PF v sd Ad nd cd se Ae ne ce r s)→Hid (P2 33 v gx (.bool false) (.slice none 0 0))→Hid (W.heap.size≤gx)→Hid (P2 33 v gy (.bool false) (.slice none 0 0))→Hid (W.heap.size≤gy)→Hid (gx≠gy)→F 4 (Array.setIfInBounds (Array.setIfInBounds L0 4 true) 5 true) (Act.put (Act.put a0 (some 6) (.pointer (some ⟨gx,0,none⟩))) (some 7) (.pointer (some ⟨gy,0,none⟩))) v:=by
   intro gx gy v aA a_j b_j aB aJ aC aK bR
   subst hF ha0 hL0
   simp only [PT] at dB ⊢
   have hHeld:=aD.out _ aA.out
   refine ryy [1] ?_
   refine .cons rfl (fun K hK=>?_) .nil
   go_simp
   go_at_call_of 90 (#[Value.agg #[.bool sa,.slice Aa na ca,.bool sb,.slice Ab nb cb]])
   refine (den_any p q sa sb Aa Ab na ca nb cb v (a_j.out) (by omega) bB.out.1).mono ?_
   rintro e v12 ⟨s2a,A2a,n2a,c2a,rfl,hr,hk⟩
   have N0_12:=hJ (hr)
   have bK:=hJ hk
   go_wp2_with fail
   have dO:=hJ (bt aA.out bK.out)
   have a_12:=hJ ((a_j.out).new bK.out)
   have b_12:=hJ ((b_j.out).new bK.out)
   have gE:=hJ (aB.out.new bK.out)
   have gF:=hJ (aC.out.new bK.out)
   clear hHeld
   refine hK.out _ _ (aD.out _ dO.out) (fun hHeld=>?_)
   clear hK K hk bK hr aA a_j b_j aB aC
   try simp only [PT]
   exact wpAnyH_cast (by kernel_rfl) (dB s2a A2a n2a c2a gx gy v12 dO a_12 b_12 N0_12 gE (hJ (aJ.out)) gF (hJ (aK.out)) (hJ (bR.out)))
  have J1:∀ (s2a:Bool) (A2a:Option Addr) (n2a:Nat) (c2a:Nat) (v:World),Hid (Below W.heap.size W v)→Hid (PF v sa Aa na ca sb Ab nb cb p q)→Hid (PF v sd Ad nd cd se Ae ne ce r s)→Hid (PI v s2a A2a n2a c2a (q))→F 5 (Array.setIfInBounds L0 1 true) (Act.put a0 (some 22) (.agg #[.bool s2a,.slice A2a n2a c2a])) v:=by
   intro s2a A2a n2a c2a v aA a_j b_j N0_j
   subst hF ha0 hL0
   simp only [PT] at iA eF eG ⊢
   have hHeld:=aD.out _ aA.out
   refine ryy [3,4,5] ?_
   refine .cons rfl (fun K hK=>?_) ?_
   go_simp
   go_at_call_of 90 (#[Value.agg #[.bool sd,.slice Ad nd cd,.bool se,.slice Ae ne ce]])
   refine (den_any r s sd se Ad Ae nd cd ne ce v (b_j.out) (by omega) bB.out.2.1).mono ?_
   rintro e v13 ⟨s2b,A2b,n2b,c2b,rfl,hr,hk⟩
   have N1_13:=hJ (hr)
   have bS:=hJ hk
   go_wp2_with fail
   have dP:=hJ (bt aA.out bS.out)
   have a_13:=hJ ((a_j.out).new bS.out)
   have b_13:=hJ ((b_j.out).new bS.out)
   have N0_13:=hJ (PIo.new N0_j.out bS.out)
   clear hHeld
   refine hK.out _ _ (aD.out _ dP.out) (fun hHeld=>?_)
   clear hK K hk bS hr aA a_j b_j N0_j
   try simp only [PT]
   exact wpAnyH_cast (by kernel_rfl) (iA s2a A2a n2a c2a s2b A2b n2b c2b v13 dP a_13 b_13 N0_13 N1_13)
   refine .cons rfl (fun K hK=>?_) ?_
   go_simp
   have bL:=hJ ((Below.refl v.heap.size v).alloc (Nat.le_refl _) (.cells #[.bool false,.slice none 0 0] 33))
   have cT:=hJ (P2.lit v 33 (.bool false) (.slice none 0 0))
   obtain ⟨v14,hV⟩:=nmz (World.alloc v (.cells #[.bool false,.slice none 0 0] 33))
   obtain ⟨gx,hg⟩:=nmz (v.heap.size)
   rw [hV] at bL cT  ⊢
   rw [hg] at cT  ⊢
   have aR:=hJ (show W.heap.size≤gx by rw [←hg]; exact aA.out.size)
   have dQ:=hJ (bt aA.out bL.out)
   have a_14:=hJ ((a_j.out).new bL.out)
   have b_14:=hJ ((b_j.out).new bL.out)
   have N0_14:=hJ (PIo.new N0_j.out bL.out)
   clear hHeld
   refine hK.out _ _ (aD.out _ dQ.out) (fun hHeld=>?_)
   clear hK K hV hg bL aA a_j b_j N0_j
   try simp only [PT]
   exact wpAnyH_cast (by kernel_rfl) (eF s2a A2a n2a c2a gx v14 dQ a_14 b_14 N0_14 cT (hJ (aR.out)))
   refine .cons rfl (fun K hK=>?_) .nil
   go_simp
   have bM:=hJ ((Below.refl v.heap.size v).alloc (Nat.le_refl _) (.cells #[.bool false,.slice none 0 0] 33))
   have cU:=hJ (P2.lit v 33 (.bool false) (.slice none 0 0))
   obtain ⟨v15,hV⟩:=nmz (World.alloc v (.cells #[.bool false,.slice none 0 0] 33))
   obtain ⟨gy,hg⟩:=nmz (v.heap.size)
   rw [hV] at bM cU  ⊢
   rw [hg] at cU  ⊢
   have aO:=hJ (show W.heap.size≤gy by rw [←hg]; exact aA.out.size)
   have dR:=hJ (bt aA.out bM.out)
   have a_15:=hJ ((a_j.out).new bM.out)
   have b_15:=hJ ((b_j.out).new bM.out)
   have N0_15:=hJ (PIo.new N0_j.out bM.out)
   clear hHeld
   refine hK.out _ _ (aD.out _ dR.out) (fun hHeld=>?_)
   clear hK K hV hg bM aA a_j b_j N0_j
   try simp only [PT]
   exact wpAnyH_cast (by kernel_rfl) (eG s2a A2a n2a c2a gy v15 dR a_15 b_15 N0_15 cU (hJ (aO.out)))
  have J4:∀ (gx:Nat) (v:World),Hid (Below W.heap.size W v)→Hid (PF v sa Aa na ca sb Ab nb cb p q)→Hid (PF v sd Ad nd cd se Ae ne ce r s)→Hid (P2 33 v gx (.bool false) (.slice none 0 0))→Hid (W.heap.size≤gx)→F 5 (Array.setIfInBounds L0 4 true) (Act.put a0 (some 6) (.pointer (some ⟨gx,0,none⟩))) v:=by
   intro gx v aA a_j b_j aB aJ
   subst hF ha0 hL0
   simp only [PT] at eF eH ⊢
   have hHeld:=aD.out _ aA.out
   refine ryy [1,5] ?_
   refine .cons rfl (fun K hK=>?_) ?_
   go_simp
   go_at_call_of 90 (#[Value.agg #[.bool sa,.slice Aa na ca,.bool sb,.slice Ab nb cb]])
   refine (den_any p q sa sb Aa Ab na ca nb cb v (a_j.out) (by omega) bB.out.1).mono ?_
   rintro e v16 ⟨s2a,A2a,n2a,c2a,rfl,hr,hk⟩
   have N0_16:=hJ (hr)
   have bT:=hJ hk
   go_wp2_with fail
   have dS:=hJ (bt aA.out bT.out)
   have a_16:=hJ ((a_j.out).new bT.out)
   have b_16:=hJ ((b_j.out).new bT.out)
   have gG:=hJ (aB.out.new bT.out)
   clear hHeld
   refine hK.out _ _ (aD.out _ dS.out) (fun hHeld=>?_)
   clear hK K hk bT hr aA a_j b_j aB
   try simp only [PT]
   exact wpAnyH_cast (by kernel_rfl) (eF s2a A2a n2a c2a gx v16 dS a_16 b_16 N0_16 gG (hJ (aJ.out)))
   refine .cons rfl (fun K hK=>?_) .nil
   go_simp
   have bN:=hJ ((Below.refl v.heap.size v).alloc (Nat.le_refl _) (.cells #[.bool false,.slice none 0 0] 33))
   have cV:=hJ (P2.lit v 33 (.bool false) (.slice none 0 0))
   obtain ⟨v17,hV⟩:=nmz (World.alloc v (.cells #[.bool false,.slice none 0 0] 33))
   obtain ⟨gy,hg⟩:=nmz (v.heap.size)
   rw [hV] at bN cV  ⊢
   rw [hg] at cV  ⊢
   have aO:=hJ (show W.heap.size≤gy by rw [←hg]; exact aA.out.size)
   have bZ:=hJ (show gx≠gy by have:=aB.out.lt; rw [hg] at this; omega)
   have dT:=hJ (bt aA.out bN.out)
   have a_17:=hJ ((a_j.out).new bN.out)
   have b_17:=hJ ((b_j.out).new bN.out)
   have gH:=hJ (aB.out.new bN.out)
   clear hHeld
   refine hK.out _ _ (aD.out _ dT.out) (fun hHeld=>?_)
   clear hK K hV hg bN aA a_j b_j aB
   try simp only [PT]
   exact wpAnyH_cast (by kernel_rfl) (eH gx gy v17 dT a_17 b_17 gH (hJ (aJ.out)) cV (hJ (aO.out)) (hJ (bZ.out)))
  have J5:∀ (gy:Nat) (v:World),Hid (Below W.heap.size W v)→Hid (PF v sa Aa na ca sb Ab nb cb p q)→Hid (PF v sd Ad nd cd se Ae ne ce r s)→Hid (P2 33 v gy (.bool false) (.slice none 0 0))→Hid (W.heap.size≤gy)→F 5 (Array.setIfInBounds L0 5 true) (Act.put a0 (some 7) (.pointer (some ⟨gy,0,none⟩))) v:=by
   intro gy v aA a_j b_j aC aK
   subst hF ha0 hL0
   simp only [PT] at eG eH ⊢
   have hHeld:=aD.out _ aA.out
   refine ryy [1,4] ?_
   refine .cons rfl (fun K hK=>?_) ?_
   go_simp
   go_at_call_of 90 (#[Value.agg #[.bool sa,.slice Aa na ca,.bool sb,.slice Ab nb cb]])
   refine (den_any p q sa sb Aa Ab na ca nb cb v (a_j.out) (by omega) bB.out.1).mono ?_
   rintro e v18 ⟨s2a,A2a,n2a,c2a,rfl,hr,hk⟩
   have N0_18:=hJ (hr)
   have bU:=hJ hk
   go_wp2_with fail
   have dU:=hJ (bt aA.out bU.out)
   have a_18:=hJ ((a_j.out).new bU.out)
   have b_18:=hJ ((b_j.out).new bU.out)
   have gI:=hJ (aC.out.new bU.out)
   clear hHeld
   refine hK.out _ _ (aD.out _ dU.out) (fun hHeld=>?_)
   clear hK K hk bU hr aA a_j b_j aC
   try simp only [PT]
   exact wpAnyH_cast (by kernel_rfl) (eG s2a A2a n2a c2a gy v18 dU a_18 b_18 N0_18 gI (hJ (aK.out)))
   refine .cons rfl (fun K hK=>?_) .nil
   go_simp
   have bO:=hJ ((Below.refl v.heap.size v).alloc (Nat.le_refl _) (.cells #[.bool false,.slice none 0 0] 33))
   have cW:=hJ (P2.lit v 33 (.bool false) (.slice none 0 0))
   obtain ⟨v19,hV⟩:=nmz (World.alloc v (.cells #[.bool false,.slice none 0 0] 33))
   obtain ⟨gx,hg⟩:=nmz (v.heap.size)
   rw [hV] at bO cW  ⊢
   rw [hg] at cW  ⊢
   have aR:=hJ (show W.heap.size≤gx by rw [←hg]; exact aA.out.size)
   have cA:=hJ (show gy≠gx by have:=aC.out.lt; rw [hg] at this; omega)
   have dW:=hJ (bt aA.out bO.out)
   have a_19:=hJ ((a_j.out).new bO.out)
   have b_19:=hJ ((b_j.out).new bO.out)
   have gJ:=hJ (aC.out.new bO.out)
   clear hHeld
   refine hK.out _ _ (aD.out _ dW.out) (fun hHeld=>?_)
   clear hK K hV hg bO aA a_j b_j aC
   try simp only [PT]
   exact wpAnyH_cast (by kernel_rfl) (eH gx gy v19 dW a_19 b_19 cW (hJ (aR.out)) gJ (hJ (aK.out)) (hJ (cA.out.symm)))
  subst hF ha0 hL0
  simp only [PT] at J1 J4 J5
  refine ryy [1,4,5] ?_
  refine .cons rfl (fun K hK=>?_) ?_
  go_simp
  go_at_call_of 90 (#[Value.agg #[.bool sa,.slice Aa na ca,.bool sb,.slice Ab nb cb]])
  refine (den_any p q sa sb Aa Ab na ca nb cb v0 (a_0.out) (by omega) bB.out.1).mono ?_
  rintro e v20 ⟨s2a,A2a,n2a,c2a,rfl,hr,hk⟩
  have N0_20:=hJ (hr)
  have cB:=hJ hk
  go_wp2_with fail
  have dX:=hJ (bt aH.out cB.out)
  have a_20:=hJ ((a_0.out).new cB.out)
  have b_20:=hJ ((b_0.out).new cB.out)
  clear hHeld
  refine hK.out _ _ (aD.out _ dX.out) (fun hHeld=>?_)
  clear hK K hk cB hr aH a_0 b_0
  try simp only [PT]
  exact wpAnyH_cast (by kernel_rfl) (J1 s2a A2a n2a c2a v20 dX a_20 b_20 N0_20)
  refine .cons rfl (fun K hK=>?_) ?_
  go_simp
  have bV:=hJ ((Below.refl v0.heap.size v0).alloc (Nat.le_refl _) (.cells #[.bool false,.slice none 0 0] 33))
  have cX:=hJ (P2.lit v0 33 (.bool false) (.slice none 0 0))
  obtain ⟨v21,hV⟩:=nmz (World.alloc v0 (.cells #[.bool false,.slice none 0 0] 33))
  obtain ⟨gx,hg⟩:=nmz (v0.heap.size)
  rw [hV] at bV cX  ⊢
  rw [hg] at cX  ⊢
  have aR:=hJ (show W.heap.size≤gx by rw [←hg]; exact aH.out.size)
  have dY:=hJ (bt aH.out bV.out)
  have a_21:=hJ ((a_0.out).new bV.out)
  have b_21:=hJ ((b_0.out).new bV.out)
  clear hHeld
  refine hK.out _ _ (aD.out _ dY.out) (fun hHeld=>?_)
  clear hK K hV hg bV aH a_0 b_0
  try simp only [PT]
  exact wpAnyH_cast (by kernel_rfl) (J4 gx v21 dY a_21 b_21 cX (hJ (aR.out)))
  refine .cons rfl (fun K hK=>?_) .nil
  go_simp
  have bW:=hJ ((Below.refl v0.heap.size v0).alloc (Nat.le_refl _) (.cells #[.bool false,.slice none 0 0] 33))
  have cY:=hJ (P2.lit v0 33 (.bool false) (.slice none 0 0))
  obtain ⟨v22,hV⟩:=nmz (World.alloc v0 (.cells #[.bool false,.slice none 0 0] 33))
  obtain ⟨gy,hg⟩:=nmz (v0.heap.size)
  rw [hV] at bW cY  ⊢
  rw [hg] at cY  ⊢
  have aO:=hJ (show W.heap.size≤gy by rw [←hg]; exact aH.out.size)
  have dZ:=hJ (bt aH.out bW.out)
  have a_22:=hJ ((a_0.out).new bW.out)
  have b_22:=hJ ((b_0.out).new bW.out)
  clear hHeld
  refine hK.out _ _ (aD.out _ dZ.out) (fun hHeld=>?_)
  clear hK K hV hg bW aH a_0 b_0
  try simp only [PT]
  exact wpAnyH_cast (by kernel_rfl) (J5 gy v22 dZ a_22 b_22 cY (hJ (aO.out)))
 case rest =>
  obtain ⟨G2,H2,s2a,A2a,n2a,c2a,s2b,A2b,n2b,c2b,rfl,rfl,hq1,hq2,hr1,hr2,hbx⟩:=hcut
  have gK:=hJ hq1
  have gL:=hJ hq2
  have eI:=hJ hr1
  have eJ:=hJ hr2
  have cI:=hJ hbx
  obtain ⟨x2,rfl⟩:=nm_world hbx
  clear hq1 hq2 hr1 hr2 hbx aD hZ
  have hn2a:n2a≤512:=plim eI.out bB.out.2.2.2.1
  have hn2b:n2b≤512:=plim eJ.out bB.out.2.2.2.2.2
  have iB:=hJ (cK.out.new cI.out)
  have iC:=hJ (fR.out.new cI.out)
  have iD:=hJ (cL.out.new cI.out)
  have iE:=hJ (fS.out.new cI.out)
  have iF:=hJ (fQ.out.new cI.out)
  have iG:=hJ (hY.out.new cI.out)
  have iH:=hJ (bt HK.out cI.out)
  clear cK fR cL fS fQ hY HK cI
  have aY:=hJ (ad_gcd bB.out.1 bB.out.2.1 bB.out.2.2.2.1 bB.out.2.2.2.2.2)
  obtain ⟨clq0_3,clq1_3⟩:=gK.out.cells
  obtain ⟨cls0_3,cls1_3⟩:=gL.out.cells
  go_wp2_with fail
  refine (fcommon_any q s s2a s2b A2a A2b n2a c2a n2b c2b x2 eI.out eJ.out (by omega) (by omega)).mono ?_
  rintro e w3 ⟨s3,A3,n3,c3,rfl,hr3,hb3⟩
  obtain ⟨x3,eK⟩:=nmz (w3.alloc (.cells #[.bool s3,.slice A3 n3 c3] 33))
  have bX:=hJ (show Below x2.heap.size x2 x3 by rw [←eK]; exact hb3.alloc hb3.size _)
  have eL:=hJ (show P2 33 x3 w3.heap.size (.bool s3) (.slice A3 n3 c3) by rw [←eK]; exact P2.lit _ _ _ _)
  have eM:=hJ (show PI x3 s3 A3 n3 c3 (adG q s) by rw [←eK]; exact PIo.new hr3 ((Below.refl _ _).alloc (Nat.le_refl _) _))
  have hn3:n3≤512:=plim hr3 (by exact aY.out.2.1)
  clear hr3 hb3
  have iI:=hJ (iB.out.new bX.out)
  have iJ:=hJ (iC.out.new bX.out)
  have iK:=hJ (iD.out.new bX.out)
  have iL:=hJ (iE.out.new bX.out)
  have iM:=hJ (iF.out.new bX.out)
  have iN:=hJ (iG.out.new bX.out)
  have eN:=hJ (gK.out.new bX.out)
  have gM:=hJ (PIo.new eI.out bX.out)
  have eO:=hJ (gL.out.new bX.out)
  have gO:=hJ (PIo.new eJ.out bX.out)
  have iO:=hJ (bt iH.out bX.out)
  clear iB iC iD iE iF iG gK eI gL eJ iH clq0_3 clq1_3 cls0_3 cls1_3 bX
  obtain ⟨g,hg⟩:∃ g,adG q s=g:=⟨_,rfl⟩
  rw [hg] at aY eM
  obtain ⟨qp,hqp⟩:∃ x,q / g=x:=⟨_,rfl⟩
  obtain ⟨sp,hsp⟩:∃ x,s / g=x:=⟨_,rfl⟩
  have cJ:=hJ (And.intro hg (And.intro hqp hsp))
  rw [hqp,hsp] at aY
  clear hg hqp hsp
  have aG:Hid (∀ w',Below x3.heap.size x3 w'→(fun w':World=>w'.cell? ⟨G2,0,none⟩=some (.bool s2a)∧w'.cell? ⟨G2,1,none⟩=some (.slice A2a n2a c2a)∧w'.cell? ⟨H2,0,none⟩=some (.bool s2b)∧w'.cell? ⟨H2,1,none⟩=some (.slice A2b n2b c2b)∧w'.cell? ⟨w3.heap.size,0,none⟩=some (.bool s3)∧w'.cell? ⟨w3.heap.size,1,none⟩=some (.slice A3 n3 c3)∧Below x3.heap.size x3 w') w'):=hJ (fun w' hb=>⟨(eN.out.new hb).cells.1,(eN.out.new hb).cells.2,(eO.out.new hb).cells.1,(eO.out.new hb).cells.2,(eL.out.new hb).cells.1,(eL.out.new hb).cells.2,hb⟩)
  have iP:=hJ (Below.refl x3.heap.size x3)
  go_upto_region 3 with fail
  clear eK
  go_cut [9,10] (fun tp tq wx=>∃ (G H:Nat) (s4a:Bool) (A4a:Option Addr) (n4a c4a:Nat) (s4b:Bool) (A4b:Option Addr) (n4b c4b:Nat),tp=.pointer (some ⟨G,0,none⟩)∧tq=.pointer (some ⟨H,0,none⟩)∧P2 33 wx G (.bool s4a) (.slice A4a n4a c4a)∧P2 33 wx H (.bool s4b) (.slice A4b n4b c4b)∧PI wx s4a A4a n4a c4a (q / g)∧PI wx s4b A4b n4b c4b (s / g)∧Below x3.heap.size x3 wx)
  case first =>
   have cM:=iP
   obtain ⟨v0,hv0⟩:=nmz (World.drew x3)
   have aH:=hJ (show Below x3.heap.size x3 v0 by rw [←hv0]; exact (Below.refl _ _).drew)
   have q_0:=hJ (PIo.new gM.out aH.out)
   have s_0:=hJ (PIo.new gO.out aH.out)
   have g_0:=hJ (PIo.new eM.out aH.out)
   refine wp_region_held_drew (S:=(fun w':World=>w'.cell? ⟨G2,0,none⟩=some (.bool s2a)∧w'.cell? ⟨G2,1,none⟩=some (.slice A2a n2a c2a)∧w'.cell? ⟨H2,0,none⟩=some (.bool s2b)∧w'.cell? ⟨H2,1,none⟩=some (.slice A2b n2b c2b)∧w'.cell? ⟨w3.heap.size,0,none⟩=some (.bool s3)∧w'.cell? ⟨w3.heap.size,1,none⟩=some (.slice A3 n3 c3)∧Below x3.heap.size x3 w')) (by kernel_rfl) ?_ (fun hHeld=>?_)
   ·rw [hv0]
    exact aG.out _ aH.out
   rw [hv0] at hHeld ⊢
   clear hv0 cM
   refine tq 0 ?_
   refine tq 1 ?_
   refine tq 3 ?_
   refine tq 4 ?_
   try simp only [PT]
   refine wpAnyH_name (fun F hF a0 ha0 L0 hL0=>?_)
   have dD:∀ (s4a:Bool) (A4a:Option Addr) (n4a:Nat) (c4a:Nat) (s4b:Bool) (A4b:Option Addr) (n4b:Nat) (c4b:Nat) (gx:Nat) (gy:Nat) (v:World),Hid (Below x3.heap.size x3 v)→Hid (PI v s2a A2a n2a c2a (q))→Hid (PI v s2b A2b n2b c2b (s))→Hid (PI v s3 A3 n3 c3 (g))→Hid (PI v s4a A4a n4a c4a (q / g))→Hid (PI v s4b A4b n4b c4b (s / g))→Hid (P2 33 v gx (.bool false) (.slice none 0 0))→Hid (x3.heap.size≤gx)→Hid (P2 33 v gy (.bool false) (.slice none 0 0))→Hid (x3.heap.size≤gy)→Hid (gx≠gy)→F 2 (Array.setIfInBounds (Array.setIfInBounds (Array.setIfInBounds (Array.setIfInBounds L0 2 true) 5 true) 6 true) 7 true) (Act.put (Act.put (Act.put (Act.put a0 (some 30) (.agg #[.bool s4a,.slice A4a n4a c4a])) (some 33) (.agg #[.bool s4b,.slice A4b n4b c4b])) (some 9) (.pointer (some ⟨gx,0,none⟩))) (some 10) (.pointer (some ⟨gy,0,none⟩))) v:=by
    intro s4a A4a n4a c4a s4b A4b n4b c4b gx gy v aA q_j s_j g_j N0_j N1_j aB aJ aC aK bR
    subst hF ha0 hL0
    simp only [PT] at  ⊢
    have hHeld:=aG.out _ aA.out
    refine ryy [8] ?_
    refine .cons rfl (fun K hK=>?_) .nil
    obtain ⟨z0,z1⟩:=aB.out.cells
    have y0:=aB.out.frozen 0
    have y1:=aB.out.frozen 1
    have z9:=aB.out.lt
    go_simp
    obtain ⟨v1,hV⟩:=nmz (World.setCell (World.setCell v ⟨gx,0,none⟩ (.bool s4a)) ⟨gx,1,none⟩ (.slice A4a n4a c4a))
    rw [hV]
    have bY:=hJ (show Below x3.heap.size x3 v1 by rw [←hV]; exact below_box aA.out (aJ.out) _ _)
    have q_1:=hJ (show PI v1 s2a A2a n2a c2a (q) by rw [←hV]; exact PIo.box (q_j.out) (aB.out) rfl rfl (.bool s4a) (.slice A4a n4a c4a))
    have s_1:=hJ (show PI v1 s2b A2b n2b c2b (s) by rw [←hV]; exact PIo.box (s_j.out) (aB.out) rfl rfl (.bool s4a) (.slice A4a n4a c4a))
    have g_1:=hJ (show PI v1 s3 A3 n3 c3 (g) by rw [←hV]; exact PIo.box (g_j.out) (aB.out) rfl rfl (.bool s4a) (.slice A4a n4a c4a))
    have N0_1:=hJ (show PI v1 s4a A4a n4a c4a (q / g) by rw [←hV]; exact PIo.box (N0_j.out) (aB.out) rfl rfl (.bool s4a) (.slice A4a n4a c4a))
    have N1_1:=hJ (show PI v1 s4b A4b n4b c4b (s / g) by rw [←hV]; exact PIo.box (N1_j.out) (aB.out) rfl rfl (.bool s4a) (.slice A4a n4a c4a))
    have aS:=hJ (show P2 33 v1 gy (.bool false) (.slice none 0 0) by rw [←hV]; exact aC.out.far2 (show gy≠gx from bR.out.symm) (.bool s4a) (.slice A4a n4a c4a))
    have dG:=hJ (show P2 33 v1 gx (.bool s4a) (.slice A4a n4a c4a) by rw [←hV]; exact aB.out.all (.bool s4a) (.slice A4a n4a c4a))
    clear hHeld
    refine hK.out _ _ (aG.out _ bY.out) (fun hHeld=>?_)
    clear hK K hV z9 z0 z1 y0 y1 aA q_j s_j g_j N0_j N1_j aC aB
    try simp only [PT]
    refine ryy [9] ?_
    refine .cons rfl (fun K hK=>?_) .nil
    obtain ⟨z0,z1⟩:=aS.out.cells
    have y0:=aS.out.frozen 0
    have y1:=aS.out.frozen 1
    have z9:=aS.out.lt
    go_simp
    obtain ⟨v2,hV⟩:=nmz (World.setCell (World.setCell v1 ⟨gy,0,none⟩ (.bool s4b)) ⟨gy,1,none⟩ (.slice A4b n4b c4b))
    rw [hV]
    have cD:=hJ (show Below x3.heap.size x3 v2 by rw [←hV]; exact below_box bY.out (aK.out) _ _)
    have q_2:=hJ (show PI v2 s2a A2a n2a c2a (q) by rw [←hV]; exact PIo.box (q_1.out) (aS.out) rfl rfl (.bool s4b) (.slice A4b n4b c4b))
    have s_2:=hJ (show PI v2 s2b A2b n2b c2b (s) by rw [←hV]; exact PIo.box (s_1.out) (aS.out) rfl rfl (.bool s4b) (.slice A4b n4b c4b))
    have g_2:=hJ (show PI v2 s3 A3 n3 c3 (g) by rw [←hV]; exact PIo.box (g_1.out) (aS.out) rfl rfl (.bool s4b) (.slice A4b n4b c4b))
    have N0_2:=hJ (show PI v2 s4a A4a n4a c4a (q / g) by rw [←hV]; exact PIo.box (N0_1.out) (aS.out) rfl rfl (.bool s4b) (.slice A4b n4b c4b))
    have N1_2:=hJ (show PI v2 s4b A4b n4b c4b (s / g) by rw [←hV]; exact PIo.box (N1_1.out) (aS.out) rfl rfl (.bool s4b) (.slice A4b n4b c4b))
    have fT:=hJ (show P2 33 v2 gx (.bool s4a) (.slice A4a n4a c4a) by rw [←hV]; exact dG.out.far2 (show gx≠gy from bR.out) (.bool s4b) (.slice A4b n4b c4b))
    have fU:=hJ (show P2 33 v2 gy (.bool s4b) (.slice A4b n4b c4b) by rw [←hV]; exact aS.out.all (.bool s4b) (.slice A4b n4b c4b))
    clear hHeld
    refine hK.out _ _ (aG.out _ cD.out) (fun hHeld=>?_)
    clear hK K hV z9 z0 z1 y0 y1 bY q_1 s_1 g_1 N0_1 N1_1 dG aS
    try simp only [PT]
    refine wpAnyH_done (by kernel_rfl) ?_ _
    clear hHeld
    go_wp2_with fail
    go_meet
    exact ⟨gx,gy,s4a,A4a,n4a,c4a,s4b,A4b,n4b,c4b,rfl,rfl,fT.out,fU.out,N0_2.out,N1_2.out,cD.out⟩
   have eP:∀ (s4a:Bool) (A4a:Option Addr) (n4a:Nat) (c4a:Nat) (s4b:Bool) (A4b:Option Addr) (n4b:Nat) (c4b:Nat) (gx:Nat) (v:World),Hid (Below x3.heap.size x3 v)→Hid (PI v s2a A2a n2a c2a (q))→Hid (PI v s2b A2b n2b c2b (s))→Hid (PI v s3 A3 n3 c3 (g))→Hid (PI v s4a A4a n4a c4a (q / g))→Hid (PI v s4b A4b n4b c4b (s / g))→Hid (P2 33 v gx (.bool false) (.slice none 0 0))→Hid (x3.heap.size≤gx)→F 3 (Array.setIfInBounds (Array.setIfInBounds (Array.setIfInBounds L0 2 true) 5 true) 6 true) (Act.put (Act.put (Act.put a0 (some 30) (.agg #[.bool s4a,.slice A4a n4a c4a])) (some 33) (.agg #[.bool s4b,.slice A4b n4b c4b])) (some 9) (.pointer (some ⟨gx,0,none⟩))) v:=by
    intro s4a A4a n4a c4a s4b A4b n4b c4b gx v aA q_j s_j g_j N0_j N1_j aB aJ
    subst hF ha0 hL0
    simp only [PT] at dD ⊢
    have hHeld:=aG.out _ aA.out
    refine ryy [7] ?_
    refine .cons rfl (fun K hK=>?_) .nil
    go_simp
    have aI:=hJ ((Below.refl v.heap.size v).alloc (Nat.le_refl _) (.cells #[.bool false,.slice none 0 0] 33))
    have cN:=hJ (P2.lit v 33 (.bool false) (.slice none 0 0))
    obtain ⟨v3,hV⟩:=nmz (World.alloc v (.cells #[.bool false,.slice none 0 0] 33))
    obtain ⟨gy,hg⟩:=nmz (v.heap.size)
    rw [hV] at aI cN  ⊢
    rw [hg] at cN  ⊢
    have aO:=hJ (show x3.heap.size≤gy by rw [←hg]; exact aA.out.size)
    have bZ:=hJ (show gx≠gy by have:=aB.out.lt; rw [hg] at this; omega)
    have cE:=hJ (bt aA.out aI.out)
    have q_3:=hJ (PIo.new q_j.out aI.out)
    have s_3:=hJ (PIo.new s_j.out aI.out)
    have g_3:=hJ (PIo.new g_j.out aI.out)
    have N0_3:=hJ (PIo.new N0_j.out aI.out)
    have N1_3:=hJ (PIo.new N1_j.out aI.out)
    have fV:=hJ (aB.out.new aI.out)
    clear hHeld
    refine hK.out _ _ (aG.out _ cE.out) (fun hHeld=>?_)
    clear hK K hV hg aI aA q_j s_j g_j N0_j N1_j aB
    try simp only [PT]
    exact wpAnyH_cast (by kernel_rfl) (dD s4a A4a n4a c4a s4b A4b n4b c4b gx gy v3 cE q_3 s_3 g_3 N0_3 N1_3 fV (hJ (aJ.out)) cN (hJ (aO.out)) (hJ (bZ.out)))
   have eQ:∀ (s4a:Bool) (A4a:Option Addr) (n4a:Nat) (c4a:Nat) (s4b:Bool) (A4b:Option Addr) (n4b:Nat) (c4b:Nat) (gy:Nat) (v:World),Hid (Below x3.heap.size x3 v)→Hid (PI v s2a A2a n2a c2a (q))→Hid (PI v s2b A2b n2b c2b (s))→Hid (PI v s3 A3 n3 c3 (g))→Hid (PI v s4a A4a n4a c4a (q / g))→Hid (PI v s4b A4b n4b c4b (s / g))→Hid (P2 33 v gy (.bool false) (.slice none 0 0))→Hid (x3.heap.size≤gy)→F 3 (Array.setIfInBounds (Array.setIfInBounds (Array.setIfInBounds L0 2 true) 5 true) 7 true) (Act.put (Act.put (Act.put a0 (some 30) (.agg #[.bool s4a,.slice A4a n4a c4a])) (some 33) (.agg #[.bool s4b,.slice A4b n4b c4b])) (some 10) (.pointer (some ⟨gy,0,none⟩))) v:=by
    intro s4a A4a n4a c4a s4b A4b n4b c4b gy v aA q_j s_j g_j N0_j N1_j aC aK
    subst hF ha0 hL0
    simp only [PT] at dD ⊢
    have hHeld:=aG.out _ aA.out
    refine ryy [6] ?_
    refine .cons rfl (fun K hK=>?_) .nil
    go_simp
    have aX:=hJ ((Below.refl v.heap.size v).alloc (Nat.le_refl _) (.cells #[.bool false,.slice none 0 0] 33))
    have cO:=hJ (P2.lit v 33 (.bool false) (.slice none 0 0))
    obtain ⟨v4,hV⟩:=nmz (World.alloc v (.cells #[.bool false,.slice none 0 0] 33))
    obtain ⟨gx,hg⟩:=nmz (v.heap.size)
    rw [hV] at aX cO  ⊢
    rw [hg] at cO  ⊢
    have aR:=hJ (show x3.heap.size≤gx by rw [←hg]; exact aA.out.size)
    have cA:=hJ (show gy≠gx by have:=aC.out.lt; rw [hg] at this; omega)
    have cH:=hJ (bt aA.out aX.out)
    have q_4:=hJ (PIo.new q_j.out aX.out)
    have s_4:=hJ (PIo.new s_j.out aX.out)
    have g_4:=hJ (PIo.new g_j.out aX.out)
    have N0_4:=hJ (PIo.new N0_j.out aX.out)
    have N1_4:=hJ (PIo.new N1_j.out aX.out)
    have fW:=hJ (aC.out.new aX.out)
    clear hHeld
    refine hK.out _ _ (aG.out _ cH.out) (fun hHeld=>?_)
    clear hK K hV hg aX aA q_j s_j g_j N0_j N1_j aC
    try simp only [PT]
    exact wpAnyH_cast (by kernel_rfl) (dD s4a A4a n4a c4a s4b A4b n4b c4b gx gy v4 cH q_4 s_4 g_4 N0_4 N1_4 cO (hJ (aR.out)) fW (hJ (aK.out)) (hJ (cA.out.symm)))
   have dE:∀ (s4a:Bool) (A4a:Option Addr) (n4a:Nat) (c4a:Nat) (gx:Nat) (gy:Nat) (v:World),Hid (Below x3.heap.size x3 v)→Hid (PI v s2a A2a n2a c2a (q))→Hid (PI v s2b A2b n2b c2b (s))→Hid (PI v s3 A3 n3 c3 (g))→Hid (PI v s4a A4a n4a c4a (q / g))→Hid (P2 33 v gx (.bool false) (.slice none 0 0))→Hid (x3.heap.size≤gx)→Hid (P2 33 v gy (.bool false) (.slice none 0 0))→Hid (x3.heap.size≤gy)→Hid (gx≠gy)→F 3 (Array.setIfInBounds (Array.setIfInBounds (Array.setIfInBounds L0 2 true) 6 true) 7 true) (Act.put (Act.put (Act.put a0 (some 30) (.agg #[.bool s4a,.slice A4a n4a c4a])) (some 9) (.pointer (some ⟨gx,0,none⟩))) (some 10) (.pointer (some ⟨gy,0,none⟩))) v:=by
    intro s4a A4a n4a c4a gx gy v aA q_j s_j g_j N0_j aB aJ aC aK bR
    subst hF ha0 hL0
    simp only [PT] at dD ⊢
    have hHeld:=aG.out _ aA.out
    refine ryy [5] ?_
    refine .cons rfl (fun K hK=>?_) .nil
    go_simp
    go_at_call_of 95 (#[Value.agg #[.bool s2b,.slice A2b n2b c2b],Value.agg #[.bool s3,.slice A3 n3 c3]])
    refine (fdivided_any s g s2b s3 A2b A3 n2b c2b n3 c3 v (s_j.out) (g_j.out) (by omega) (by omega) aY.out.1).mono ?_
    rintro e v5 ⟨s4b,A4b,n4b,c4b,rfl,hr,hk⟩
    have N1_5:=hJ (hr)
    have bC:=hJ hk
    go_wp2_with fail
    have dH:=hJ (bt aA.out bC.out)
    have q_5:=hJ (PIo.new q_j.out bC.out)
    have s_5:=hJ (PIo.new s_j.out bC.out)
    have g_5:=hJ (PIo.new g_j.out bC.out)
    have N0_5:=hJ (PIo.new N0_j.out bC.out)
    have fX:=hJ (aB.out.new bC.out)
    have fY:=hJ (aC.out.new bC.out)
    clear hHeld
    refine hK.out _ _ (aG.out _ dH.out) (fun hHeld=>?_)
    clear hK K hk bC hr aA q_j s_j g_j N0_j aB aC
    try simp only [PT]
    exact wpAnyH_cast (by kernel_rfl) (dD s4a A4a n4a c4a s4b A4b n4b c4b gx gy v5 dH q_5 s_5 g_5 N0_5 N1_5 fX (hJ (aJ.out)) fY (hJ (aK.out)) (hJ (bR.out)))
   have iQ:∀ (s4a:Bool) (A4a:Option Addr) (n4a:Nat) (c4a:Nat) (s4b:Bool) (A4b:Option Addr) (n4b:Nat) (c4b:Nat) (v:World),Hid (Below x3.heap.size x3 v)→Hid (PI v s2a A2a n2a c2a (q))→Hid (PI v s2b A2b n2b c2b (s))→Hid (PI v s3 A3 n3 c3 (g))→Hid (PI v s4a A4a n4a c4a (q / g))→Hid (PI v s4b A4b n4b c4b (s / g))→F 4 (Array.setIfInBounds (Array.setIfInBounds L0 2 true) 5 true) (Act.put (Act.put a0 (some 30) (.agg #[.bool s4a,.slice A4a n4a c4a])) (some 33) (.agg #[.bool s4b,.slice A4b n4b c4b])) v:=by
    intro s4a A4a n4a c4a s4b A4b n4b c4b v aA q_j s_j g_j N0_j N1_j
    subst hF ha0 hL0
    simp only [PT] at eP eQ ⊢
    have hHeld:=aG.out _ aA.out
    refine ryy [6,7] ?_
    refine .cons rfl (fun K hK=>?_) ?_
    go_simp
    have bD:=hJ ((Below.refl v.heap.size v).alloc (Nat.le_refl _) (.cells #[.bool false,.slice none 0 0] 33))
    have cP:=hJ (P2.lit v 33 (.bool false) (.slice none 0 0))
    obtain ⟨v6,hV⟩:=nmz (World.alloc v (.cells #[.bool false,.slice none 0 0] 33))
    obtain ⟨gx,hg⟩:=nmz (v.heap.size)
    rw [hV] at bD cP  ⊢
    rw [hg] at cP  ⊢
    have aR:=hJ (show x3.heap.size≤gx by rw [←hg]; exact aA.out.size)
    have dI:=hJ (bt aA.out bD.out)
    have q_6:=hJ (PIo.new q_j.out bD.out)
    have s_6:=hJ (PIo.new s_j.out bD.out)
    have g_6:=hJ (PIo.new g_j.out bD.out)
    have N0_6:=hJ (PIo.new N0_j.out bD.out)
    have N1_6:=hJ (PIo.new N1_j.out bD.out)
    clear hHeld
    refine hK.out _ _ (aG.out _ dI.out) (fun hHeld=>?_)
    clear hK K hV hg bD aA q_j s_j g_j N0_j N1_j
    try simp only [PT]
    exact wpAnyH_cast (by kernel_rfl) (eP s4a A4a n4a c4a s4b A4b n4b c4b gx v6 dI q_6 s_6 g_6 N0_6 N1_6 cP (hJ (aR.out)))
    refine .cons rfl (fun K hK=>?_) .nil
    go_simp
    have bE:=hJ ((Below.refl v.heap.size v).alloc (Nat.le_refl _) (.cells #[.bool false,.slice none 0 0] 33))
    have cQ:=hJ (P2.lit v 33 (.bool false) (.slice none 0 0))
    obtain ⟨v7,hV⟩:=nmz (World.alloc v (.cells #[.bool false,.slice none 0 0] 33))
    obtain ⟨gy,hg⟩:=nmz (v.heap.size)
    rw [hV] at bE cQ  ⊢
    rw [hg] at cQ  ⊢
    have aO:=hJ (show x3.heap.size≤gy by rw [←hg]; exact aA.out.size)
    have dJ:=hJ (bt aA.out bE.out)
    have q_7:=hJ (PIo.new q_j.out bE.out)
    have s_7:=hJ (PIo.new s_j.out bE.out)
    have g_7:=hJ (PIo.new g_j.out bE.out)
    have N0_7:=hJ (PIo.new N0_j.out bE.out)
    have N1_7:=hJ (PIo.new N1_j.out bE.out)
    clear hHeld
    refine hK.out _ _ (aG.out _ dJ.out) (fun hHeld=>?_)
    clear hK K hV hg bE aA q_j s_j g_j N0_j N1_j
    try simp only [PT]
    exact wpAnyH_cast (by kernel_rfl) (eQ s4a A4a n4a c4a s4b A4b n4b c4b gy v7 dJ q_7 s_7 g_7 N0_7 N1_7 cQ (hJ (aO.out)))
   have eR:∀ (s4a:Bool) (A4a:Option Addr) (n4a:Nat) (c4a:Nat) (gx:Nat) (v:World),Hid (Below x3.heap.size x3 v)→Hid (PI v s2a A2a n2a c2a (q))→Hid (PI v s2b A2b n2b c2b (s))→Hid (PI v s3 A3 n3 c3 (g))→Hid (PI v s4a A4a n4a c4a (q / g))→Hid (P2 33 v gx (.bool false) (.slice none 0 0))→Hid (x3.heap.size≤gx)→F 4 (Array.setIfInBounds (Array.setIfInBounds L0 2 true) 6 true) (Act.put (Act.put a0 (some 30) (.agg #[.bool s4a,.slice A4a n4a c4a])) (some 9) (.pointer (some ⟨gx,0,none⟩))) v:=by
    intro s4a A4a n4a c4a gx v aA q_j s_j g_j N0_j aB aJ
    subst hF ha0 hL0
    simp only [PT] at eP dE ⊢
    have hHeld:=aG.out _ aA.out
    refine ryy [5,7] ?_
    refine .cons rfl (fun K hK=>?_) ?_
    go_simp
    go_at_call_of 95 (#[Value.agg #[.bool s2b,.slice A2b n2b c2b],Value.agg #[.bool s3,.slice A3 n3 c3]])
    refine (fdivided_any s g s2b s3 A2b A3 n2b c2b n3 c3 v (s_j.out) (g_j.out) (by omega) (by omega) aY.out.1).mono ?_
    rintro e v8 ⟨s4b,A4b,n4b,c4b,rfl,hr,hk⟩
    have N1_8:=hJ (hr)
    have bH:=hJ hk
    go_wp2_with fail
    have dK:=hJ (bt aA.out bH.out)
    have q_8:=hJ (PIo.new q_j.out bH.out)
    have s_8:=hJ (PIo.new s_j.out bH.out)
    have g_8:=hJ (PIo.new g_j.out bH.out)
    have N0_8:=hJ (PIo.new N0_j.out bH.out)
    have fZ:=hJ (aB.out.new bH.out)
    clear hHeld
    refine hK.out _ _ (aG.out _ dK.out) (fun hHeld=>?_)
    clear hK K hk bH hr aA q_j s_j g_j N0_j aB
    try simp only [PT]
    exact wpAnyH_cast (by kernel_rfl) (eP s4a A4a n4a c4a s4b A4b n4b c4b gx v8 dK q_8 s_8 g_8 N0_8 N1_8 fZ (hJ (aJ.out)))
    refine .cons rfl (fun K hK=>?_) .nil
    go_simp
    have bF:=hJ ((Below.refl v.heap.size v).alloc (Nat.le_refl _) (.cells #[.bool false,.slice none 0 0] 33))
    have cR:=hJ (P2.lit v 33 (.bool false) (.slice none 0 0))
    obtain ⟨v9,hV⟩:=nmz (World.alloc v (.cells #[.bool false,.slice none 0 0] 33))
    obtain ⟨gy,hg⟩:=nmz (v.heap.size)
    rw [hV] at bF cR  ⊢
    rw [hg] at cR  ⊢
    have aO:=hJ (show x3.heap.size≤gy by rw [←hg]; exact aA.out.size)
    have bZ:=hJ (show gx≠gy by have:=aB.out.lt; rw [hg] at this; omega)
    have dL:=hJ (bt aA.out bF.out)
    have q_9:=hJ (PIo.new q_j.out bF.out)
    have s_9:=hJ (PIo.new s_j.out bF.out)
    have g_9:=hJ (PIo.new g_j.out bF.out)
    have N0_9:=hJ (PIo.new N0_j.out bF.out)
    have gA:=hJ (aB.out.new bF.out)
    clear hHeld
    refine hK.out _ _ (aG.out _ dL.out) (fun hHeld=>?_)
    clear hK K hV hg bF aA q_j s_j g_j N0_j aB
    try simp only [PT]
    exact wpAnyH_cast (by kernel_rfl) (dE s4a A4a n4a c4a gx gy v9 dL q_9 s_9 g_9 N0_9 gA (hJ (aJ.out)) cR (hJ (aO.out)) (hJ (bZ.out)))
   have eS:∀ (s4a:Bool) (A4a:Option Addr) (n4a:Nat) (c4a:Nat) (gy:Nat) (v:World),Hid (Below x3.heap.size x3 v)→Hid (PI v s2a A2a n2a c2a (q))→Hid (PI v s2b A2b n2b c2b (s))→Hid (PI v s3 A3 n3 c3 (g))→Hid (PI v s4a A4a n4a c4a (q / g))→Hid (P2 33 v gy (.bool false) (.slice none 0 0))→Hid (x3.heap.size≤gy)→F 4 (Array.setIfInBounds (Array.setIfInBounds L0 2 true) 7 true) (Act.put (Act.put a0 (some 30) (.agg #[.bool s4a,.slice A4a n4a c4a])) (some 10) (.pointer (some ⟨gy,0,none⟩))) v:=by
    intro s4a A4a n4a c4a gy v aA q_j s_j g_j N0_j aC aK
    subst hF ha0 hL0
    simp only [PT] at eQ dE ⊢
    have hHeld:=aG.out _ aA.out
    refine ryy [5,6] ?_
    refine .cons rfl (fun K hK=>?_) ?_
    go_simp
    go_at_call_of 95 (#[Value.agg #[.bool s2b,.slice A2b n2b c2b],Value.agg #[.bool s3,.slice A3 n3 c3]])
    refine (fdivided_any s g s2b s3 A2b A3 n2b c2b n3 c3 v (s_j.out) (g_j.out) (by omega) (by omega) aY.out.1).mono ?_
    rintro e v10 ⟨s4b,A4b,n4b,c4b,rfl,hr,hk⟩
    have N1_10:=hJ (hr)
    have bJ:=hJ hk
    go_wp2_with fail
    have dM:=hJ (bt aA.out bJ.out)
    have q_10:=hJ (PIo.new q_j.out bJ.out)
    have s_10:=hJ (PIo.new s_j.out bJ.out)
    have g_10:=hJ (PIo.new g_j.out bJ.out)
    have N0_10:=hJ (PIo.new N0_j.out bJ.out)
    have gB:=hJ (aC.out.new bJ.out)
    clear hHeld
    refine hK.out _ _ (aG.out _ dM.out) (fun hHeld=>?_)
    clear hK K hk bJ hr aA q_j s_j g_j N0_j aC
    try simp only [PT]
    exact wpAnyH_cast (by kernel_rfl) (eQ s4a A4a n4a c4a s4b A4b n4b c4b gy v10 dM q_10 s_10 g_10 N0_10 N1_10 gB (hJ (aK.out)))
    refine .cons rfl (fun K hK=>?_) .nil
    go_simp
    have bG:=hJ ((Below.refl v.heap.size v).alloc (Nat.le_refl _) (.cells #[.bool false,.slice none 0 0] 33))
    have cS:=hJ (P2.lit v 33 (.bool false) (.slice none 0 0))
    obtain ⟨v11,hV⟩:=nmz (World.alloc v (.cells #[.bool false,.slice none 0 0] 33))
    obtain ⟨gx,hg⟩:=nmz (v.heap.size)
    rw [hV] at bG cS  ⊢
    rw [hg] at cS  ⊢
    have aR:=hJ (show x3.heap.size≤gx by rw [←hg]; exact aA.out.size)
    have cA:=hJ (show gy≠gx by have:=aC.out.lt; rw [hg] at this; omega)
    have dN:=hJ (bt aA.out bG.out)
    have q_11:=hJ (PIo.new q_j.out bG.out)
    have s_11:=hJ (PIo.new s_j.out bG.out)
    have g_11:=hJ (PIo.new g_j.out bG.out)
    have N0_11:=hJ (PIo.new N0_j.out bG.out)
    have gC:=hJ (aC.out.new bG.out)
    clear hHeld
    refine hK.out _ _ (aG.out _ dN.out) (fun hHeld=>?_)
    clear hK K hV hg bG aA q_j s_j g_j N0_j aC
    try simp only [PT]
    exact wpAnyH_cast (by kernel_rfl) (dE s4a A4a n4a c4a gx gy v11 dN q_11 s_11 g_11 N0_11 cS (hJ (aR.out)) gC (hJ (aK.out)) (hJ (cA.out.symm)))
   have eT:∀ (gx:Nat) (gy:Nat) (v:World),Hid (Below x3.heap.size x3 v)→Hid (PI v s2a A2a n2a c2a (q))→Hid (PI v s2b A2b n2b c2b (s))→Hid (PI v s3 A3 n3 c3 (g))→Hid (P2 33 v gx (.bool false) (.slice none 0 0))→Hid (x3.heap.size≤gx)→Hid (P2 33 v gy (.bool false) (.slice none 0 0))→Hid (x3.heap.size≤gy)→Hid (gx≠gy)→F 4 (Array.setIfInBounds (Array.setIfInBounds L0 6 true) 7 true) (Act.put (Act.put a0 (some 9) (.pointer (some ⟨gx,0,none⟩))) (some 10) (.pointer (some ⟨gy,0,none⟩))) v:=by
    intro gx gy v aA q_j s_j g_j aB aJ aC aK bR
    subst hF ha0 hL0
    simp only [PT] at dE ⊢
    have hHeld:=aG.out _ aA.out
    refine ryy [2] ?_
    refine .cons rfl (fun K hK=>?_) .nil
    go_simp
    go_at_call_of 95 (#[Value.agg #[.bool s2a,.slice A2a n2a c2a],Value.agg #[.bool s3,.slice A3 n3 c3]])
    refine (fdivided_any q g s2a s3 A2a A3 n2a c2a n3 c3 v (q_j.out) (g_j.out) (by omega) (by omega) aY.out.1).mono ?_
    rintro e v12 ⟨s4a,A4a,n4a,c4a,rfl,hr,hk⟩
    have N0_12:=hJ (hr)
    have bK:=hJ hk
    go_wp2_with fail
    have dO:=hJ (bt aA.out bK.out)
    have q_12:=hJ (PIo.new q_j.out bK.out)
    have s_12:=hJ (PIo.new s_j.out bK.out)
    have g_12:=hJ (PIo.new g_j.out bK.out)
    have gE:=hJ (aB.out.new bK.out)
    have gF:=hJ (aC.out.new bK.out)
    clear hHeld
    refine hK.out _ _ (aG.out _ dO.out) (fun hHeld=>?_)
    clear hK K hk bK hr aA q_j s_j g_j aB aC
    try simp only [PT]
    exact wpAnyH_cast (by kernel_rfl) (dE s4a A4a n4a c4a gx gy v12 dO q_12 s_12 g_12 N0_12 gE (hJ (aJ.out)) gF (hJ (aK.out)) (hJ (bR.out)))
   have J2:∀ (s4a:Bool) (A4a:Option Addr) (n4a:Nat) (c4a:Nat) (v:World),Hid (Below x3.heap.size x3 v)→Hid (PI v s2a A2a n2a c2a (q))→Hid (PI v s2b A2b n2b c2b (s))→Hid (PI v s3 A3 n3 c3 (g))→Hid (PI v s4a A4a n4a c4a (q / g))→F 5 (Array.setIfInBounds L0 2 true) (Act.put a0 (some 30) (.agg #[.bool s4a,.slice A4a n4a c4a])) v:=by
    intro s4a A4a n4a c4a v aA q_j s_j g_j N0_j
    subst hF ha0 hL0
    simp only [PT] at iQ eR eS ⊢
    have hHeld:=aG.out _ aA.out
    refine ryy [5,6,7] ?_
    refine .cons rfl (fun K hK=>?_) ?_
    go_simp
    go_at_call_of 95 (#[Value.agg #[.bool s2b,.slice A2b n2b c2b],Value.agg #[.bool s3,.slice A3 n3 c3]])
    refine (fdivided_any s g s2b s3 A2b A3 n2b c2b n3 c3 v (s_j.out) (g_j.out) (by omega) (by omega) aY.out.1).mono ?_
    rintro e v13 ⟨s4b,A4b,n4b,c4b,rfl,hr,hk⟩
    have N1_13:=hJ (hr)
    have bS:=hJ hk
    go_wp2_with fail
    have dP:=hJ (bt aA.out bS.out)
    have q_13:=hJ (PIo.new q_j.out bS.out)
    have s_13:=hJ (PIo.new s_j.out bS.out)
    have g_13:=hJ (PIo.new g_j.out bS.out)
    have N0_13:=hJ (PIo.new N0_j.out bS.out)
    clear hHeld
    refine hK.out _ _ (aG.out _ dP.out) (fun hHeld=>?_)
    clear hK K hk bS hr aA q_j s_j g_j N0_j
    try simp only [PT]
    exact wpAnyH_cast (by kernel_rfl) (iQ s4a A4a n4a c4a s4b A4b n4b c4b v13 dP q_13 s_13 g_13 N0_13 N1_13)
    refine .cons rfl (fun K hK=>?_) ?_
    go_simp
    have bL:=hJ ((Below.refl v.heap.size v).alloc (Nat.le_refl _) (.cells #[.bool false,.slice none 0 0] 33))
    have cT:=hJ (P2.lit v 33 (.bool false) (.slice none 0 0))
    obtain ⟨v14,hV⟩:=nmz (World.alloc v (.cells #[.bool false,.slice none 0 0] 33))
    obtain ⟨gx,hg⟩:=nmz (v.heap.size)
    rw [hV] at bL cT  ⊢
    rw [hg] at cT  ⊢
    have aR:=hJ (show x3.heap.size≤gx by rw [←hg]; exact aA.out.size)
    have dQ:=hJ (bt aA.out bL.out)
    have q_14:=hJ (PIo.new q_j.out bL.out)
    have s_14:=hJ (PIo.new s_j.out bL.out)
    have g_14:=hJ (PIo.new g_j.out bL.out)
    have N0_14:=hJ (PIo.new N0_j.out bL.out)
    clear hHeld
    refine hK.out _ _ (aG.out _ dQ.out) (fun hHeld=>?_)
    clear hK K hV hg bL aA q_j s_j g_j N0_j
    try simp only [PT]
    exact wpAnyH_cast (by kernel_rfl) (eR s4a A4a n4a c4a gx v14 dQ q_14 s_14 g_14 N0_14 cT (hJ (aR.out)))
    refine .cons rfl (fun K hK=>?_) .nil
    go_simp
    have bM:=hJ ((Below.refl v.heap.size v).alloc (Nat.le_refl _) (.cells #[.bool false,.slice none 0 0] 33))
    have cU:=hJ (P2.lit v 33 (.bool false) (.slice none 0 0))
    obtain ⟨v15,hV⟩:=nmz (World.alloc v (.cells #[.bool false,.slice none 0 0] 33))
    obtain ⟨gy,hg⟩:=nmz (v.heap.size)
    rw [hV] at bM cU  ⊢
    rw [hg] at cU  ⊢
    have aO:=hJ (show x3.heap.size≤gy by rw [←hg]; exact aA.out.size)
    have dR:=hJ (bt aA.out bM.out)
    have q_15:=hJ (PIo.new q_j.out bM.out)
    have s_15:=hJ (PIo.new s_j.out bM.out)
    have g_15:=hJ (PIo.new g_j.out bM.out)
    have N0_15:=hJ (PIo.new N0_j.out bM.out)
    clear hHeld
    refine hK.out _ _ (aG.out _ dR.out) (fun hHeld=>?_)
    clear hK K hV hg bM aA q_j s_j g_j N0_j
    try simp only [PT]
    exact wpAnyH_cast (by kernel_rfl) (eS s4a A4a n4a c4a gy v15 dR q_15 s_15 g_15 N0_15 cU (hJ (aO.out)))
   have J6:∀ (gx:Nat) (v:World),Hid (Below x3.heap.size x3 v)→Hid (PI v s2a A2a n2a c2a (q))→Hid (PI v s2b A2b n2b c2b (s))→Hid (PI v s3 A3 n3 c3 (g))→Hid (P2 33 v gx (.bool false) (.slice none 0 0))→Hid (x3.heap.size≤gx)→F 5 (Array.setIfInBounds L0 6 true) (Act.put a0 (some 9) (.pointer (some ⟨gx,0,none⟩))) v:=by
    intro gx v aA q_j s_j g_j aB aJ
    subst hF ha0 hL0
    simp only [PT] at eR eT ⊢
    have hHeld:=aG.out _ aA.out
    refine ryy [2,7] ?_
    refine .cons rfl (fun K hK=>?_) ?_
    go_simp
    go_at_call_of 95 (#[Value.agg #[.bool s2a,.slice A2a n2a c2a],Value.agg #[.bool s3,.slice A3 n3 c3]])
    refine (fdivided_any q g s2a s3 A2a A3 n2a c2a n3 c3 v (q_j.out) (g_j.out) (by omega) (by omega) aY.out.1).mono ?_
    rintro e v16 ⟨s4a,A4a,n4a,c4a,rfl,hr,hk⟩
    have N0_16:=hJ (hr)
    have bT:=hJ hk
    go_wp2_with fail
    have dS:=hJ (bt aA.out bT.out)
    have q_16:=hJ (PIo.new q_j.out bT.out)
    have s_16:=hJ (PIo.new s_j.out bT.out)
    have g_16:=hJ (PIo.new g_j.out bT.out)
    have gG:=hJ (aB.out.new bT.out)
    clear hHeld
    refine hK.out _ _ (aG.out _ dS.out) (fun hHeld=>?_)
    clear hK K hk bT hr aA q_j s_j g_j aB
    try simp only [PT]
    exact wpAnyH_cast (by kernel_rfl) (eR s4a A4a n4a c4a gx v16 dS q_16 s_16 g_16 N0_16 gG (hJ (aJ.out)))
    refine .cons rfl (fun K hK=>?_) .nil
    go_simp
    have bN:=hJ ((Below.refl v.heap.size v).alloc (Nat.le_refl _) (.cells #[.bool false,.slice none 0 0] 33))
    have cV:=hJ (P2.lit v 33 (.bool false) (.slice none 0 0))
    obtain ⟨v17,hV⟩:=nmz (World.alloc v (.cells #[.bool false,.slice none 0 0] 33))
    obtain ⟨gy,hg⟩:=nmz (v.heap.size)
    rw [hV] at bN cV  ⊢
    rw [hg] at cV  ⊢
    have aO:=hJ (show x3.heap.size≤gy by rw [←hg]; exact aA.out.size)
    have bZ:=hJ (show gx≠gy by have:=aB.out.lt; rw [hg] at this; omega)
    have dT:=hJ (bt aA.out bN.out)
    have q_17:=hJ (PIo.new q_j.out bN.out)
    have s_17:=hJ (PIo.new s_j.out bN.out)
    have g_17:=hJ (PIo.new g_j.out bN.out)
    have gH:=hJ (aB.out.new bN.out)
    clear hHeld
    refine hK.out _ _ (aG.out _ dT.out) (fun hHeld=>?_)
    clear hK K hV hg bN aA q_j s_j g_j aB
    try simp only [PT]
    exact wpAnyH_cast (by kernel_rfl) (eT gx gy v17 dT q_17 s_17 g_17 gH (hJ (aJ.out)) cV (hJ (aO.out)) (hJ (bZ.out)))
   have J7:∀ (gy:Nat) (v:World),Hid (Below x3.heap.size x3 v)→Hid (PI v s2a A2a n2a c2a (q))→Hid (PI v s2b A2b n2b c2b (s))→Hid (PI v s3 A3 n3 c3 (g))→Hid (P2 33 v gy (.bool false) (.slice none 0 0))→Hid (x3.heap.size≤gy)→F 5 (Array.setIfInBounds L0 7 true) (Act.put a0 (some 10) (.pointer (some ⟨gy,0,none⟩))) v:=by
    intro gy v aA q_j s_j g_j aC aK
    subst hF ha0 hL0
    simp only [PT] at eS eT ⊢
    have hHeld:=aG.out _ aA.out
    refine ryy [2,6] ?_
    refine .cons rfl (fun K hK=>?_) ?_
    go_simp
    go_at_call_of 95 (#[Value.agg #[.bool s2a,.slice A2a n2a c2a],Value.agg #[.bool s3,.slice A3 n3 c3]])
    refine (fdivided_any q g s2a s3 A2a A3 n2a c2a n3 c3 v (q_j.out) (g_j.out) (by omega) (by omega) aY.out.1).mono ?_
    rintro e v18 ⟨s4a,A4a,n4a,c4a,rfl,hr,hk⟩
    have N0_18:=hJ (hr)
    have bU:=hJ hk
    go_wp2_with fail
    have dU:=hJ (bt aA.out bU.out)
    have q_18:=hJ (PIo.new q_j.out bU.out)
    have s_18:=hJ (PIo.new s_j.out bU.out)
    have g_18:=hJ (PIo.new g_j.out bU.out)
    have gI:=hJ (aC.out.new bU.out)
    clear hHeld
    refine hK.out _ _ (aG.out _ dU.out) (fun hHeld=>?_)
    clear hK K hk bU hr aA q_j s_j g_j aC
    try simp only [PT]
    exact wpAnyH_cast (by kernel_rfl) (eS s4a A4a n4a c4a gy v18 dU q_18 s_18 g_18 N0_18 gI (hJ (aK.out)))
    refine .cons rfl (fun K hK=>?_) .nil
    go_simp
    have bO:=hJ ((Below.refl v.heap.size v).alloc (Nat.le_refl _) (.cells #[.bool false,.slice none 0 0] 33))
    have cW:=hJ (P2.lit v 33 (.bool false) (.slice none 0 0))
    obtain ⟨v19,hV⟩:=nmz (World.alloc v (.cells #[.bool false,.slice none 0 0] 33))
    obtain ⟨gx,hg⟩:=nmz (v.heap.size)
    rw [hV] at bO cW  ⊢
    rw [hg] at cW  ⊢
    have aR:=hJ (show x3.heap.size≤gx by rw [←hg]; exact aA.out.size)
    have cA:=hJ (show gy≠gx by have:=aC.out.lt; rw [hg] at this; omega)
    have dW:=hJ (bt aA.out bO.out)
    have q_19:=hJ (PIo.new q_j.out bO.out)
    have s_19:=hJ (PIo.new s_j.out bO.out)
    have g_19:=hJ (PIo.new g_j.out bO.out)
    have gJ:=hJ (aC.out.new bO.out)
    clear hHeld
    refine hK.out _ _ (aG.out _ dW.out) (fun hHeld=>?_)
    clear hK K hV hg bO aA q_j s_j g_j aC
    try simp only [PT]
    exact wpAnyH_cast (by kernel_rfl) (eT gx gy v19 dW q_19 s_19 g_19 cW (hJ (aR.out)) gJ (hJ (aK.out)) (hJ (cA.out.symm)))
   subst hF ha0 hL0
   simp only [PT] at J2 J6 J7
   refine ryy [2,6,7] ?_
   refine .cons rfl (fun K hK=>?_) ?_
   go_simp
   go_at_call_of 95 (#[Value.agg #[.bool s2a,.slice A2a n2a c2a],Value.agg #[.bool s3,.slice A3 n3 c3]])
   refine (fdivided_any q g s2a s3 A2a A3 n2a c2a n3 c3 v0 (q_0.out) (g_0.out) (by omega) (by omega) aY.out.1).mono ?_
   rintro e v20 ⟨s4a,A4a,n4a,c4a,rfl,hr,hk⟩
   have N0_20:=hJ (hr)
   have cB:=hJ hk
   go_wp2_with fail
   have dX:=hJ (bt aH.out cB.out)
   have q_20:=hJ (PIo.new q_0.out cB.out)
   have s_20:=hJ (PIo.new s_0.out cB.out)
   have g_20:=hJ (PIo.new g_0.out cB.out)
   clear hHeld
   refine hK.out _ _ (aG.out _ dX.out) (fun hHeld=>?_)
   clear hK K hk cB hr aH q_0 s_0 g_0
   try simp only [PT]
   exact wpAnyH_cast (by kernel_rfl) (J2 s4a A4a n4a c4a v20 dX q_20 s_20 g_20 N0_20)
   refine .cons rfl (fun K hK=>?_) ?_
   go_simp
   have bV:=hJ ((Below.refl v0.heap.size v0).alloc (Nat.le_refl _) (.cells #[.bool false,.slice none 0 0] 33))
   have cX:=hJ (P2.lit v0 33 (.bool false) (.slice none 0 0))
   obtain ⟨v21,hV⟩:=nmz (World.alloc v0 (.cells #[.bool false,.slice none 0 0] 33))
   obtain ⟨gx,hg⟩:=nmz (v0.heap.size)
   rw [hV] at bV cX  ⊢
   rw [hg] at cX  ⊢
   have aR:=hJ (show x3.heap.size≤gx by rw [←hg]; exact aH.out.size)
   have dY:=hJ (bt aH.out bV.out)
   have q_21:=hJ (PIo.new q_0.out bV.out)
   have s_21:=hJ (PIo.new s_0.out bV.out)
   have g_21:=hJ (PIo.new g_0.out bV.out)
   clear hHeld
   refine hK.out _ _ (aG.out _ dY.out) (fun hHeld=>?_)
   clear hK K hV hg bV aH q_0 s_0 g_0
   try simp only [PT]
   exact wpAnyH_cast (by kernel_rfl) (J6 gx v21 dY q_21 s_21 g_21 cX (hJ (aR.out)))
   refine .cons rfl (fun K hK=>?_) .nil
   go_simp
   have bW:=hJ ((Below.refl v0.heap.size v0).alloc (Nat.le_refl _) (.cells #[.bool false,.slice none 0 0] 33))
   have cY:=hJ (P2.lit v0 33 (.bool false) (.slice none 0 0))
   obtain ⟨v22,hV⟩:=nmz (World.alloc v0 (.cells #[.bool false,.slice none 0 0] 33))
   obtain ⟨gy,hg⟩:=nmz (v0.heap.size)
   rw [hV] at bW cY  ⊢
   rw [hg] at cY  ⊢
   have aO:=hJ (show x3.heap.size≤gy by rw [←hg]; exact aH.out.size)
   have dZ:=hJ (bt aH.out bW.out)
   have q_22:=hJ (PIo.new q_0.out bW.out)
   have s_22:=hJ (PIo.new s_0.out bW.out)
   have g_22:=hJ (PIo.new g_0.out bW.out)
   clear hHeld
   refine hK.out _ _ (aG.out _ dZ.out) (fun hHeld=>?_)
   clear hK K hV hg bW aH q_0 s_0 g_0
   try simp only [PT]
   exact wpAnyH_cast (by kernel_rfl) (J7 gy v22 dZ q_22 s_22 g_22 cY (hJ (aO.out)))
  case rest =>
   obtain ⟨G4,H4,s4a,A4a,n4a,c4a,s4b,A4b,n4b,c4b,rfl,rfl,hq1,hq2,hr1,hr2,hbx⟩:=hcut
   have iR:=hJ hq1
   have gP:=hJ hq2
   have eU:=hJ hr1
   have eA:=hJ hr2
   have bP:=hJ hbx
   obtain ⟨x4,rfl⟩:=nm_world hbx
   clear hq1 hq2 hr1 hr2 hbx aG iP
   have hn4a:n4a≤512:=plim eU.out (by rw [cJ.out.2.1]; exact aY.out.2.2.1)
   have hn4b:n4b≤512:=plim eA.out (by rw [cJ.out.2.2]; exact aY.out.2.2.2)
   have gQ:=hJ (iI.out.new bP.out)
   have iS:=hJ (iJ.out.new bP.out)
   have iT:=hJ (iK.out.new bP.out)
   have iU:=hJ (iL.out.new bP.out)
   have iV:=hJ (iM.out.new bP.out)
   have iW:=hJ (iN.out.new bP.out)
   have iX:=hJ (eN.out.new bP.out)
   have iY:=hJ (PIo.new gM.out bP.out)
   have iZ:=hJ (eO.out.new bP.out)
   have jA:=hJ (PIo.new gO.out bP.out)
   have jB:=hJ (eL.out.new bP.out)
   have jC:=hJ (PIo.new eM.out bP.out)
   have jD:=hJ (bt iO.out bP.out)
   clear iI iJ iK iL iM iN eN gM eO gO eL eM iO bP
   rw [cJ.out.2.1] at eU
   rw [cJ.out.2.2] at eA
   obtain ⟨cla0_4,cla1_4,cla2_4,cla3_4⟩:=gQ.out.cells
   obtain ⟨clsp0_5,clsp1_5⟩:=gP.out.cells
   obtain ⟨x5,gR⟩:=nmz (x4.alloc (.cells #[.bool s4b,.slice A4b n4b c4b] 33))
   have aZ:=hJ (show Below x4.heap.size x4 x5 by rw [←gR]; exact (Below.refl _ _).alloc (Nat.le_refl _) _)
   have jE:=hJ (show Pel x5 x4.heap.size [sp]∧x4.heap.size < x5.heap.size by rw [←gR]; exact ⟨pel_lit1 eA.out aY.out.2.2.2,by simp⟩)
   have jF:=hJ (gQ.out.new aZ.out)
   have gT:=hJ (iS.out.new aZ.out)
   have jG:=hJ (iT.out.new aZ.out)
   have jH:=hJ (iU.out.new aZ.out)
   have jI:=hJ (iV.out.new aZ.out)
   have jJ:=hJ (iW.out.new aZ.out)
   have jK:=hJ (iX.out.new aZ.out)
   have jL:=hJ (PIo.new iY.out aZ.out)
   have jM:=hJ (iZ.out.new aZ.out)
   have jN:=hJ (PIo.new jA.out aZ.out)
   have jO:=hJ (jB.out.new aZ.out)
   have jP:=hJ (PIo.new jC.out aZ.out)
   have jQ:=hJ (iR.out.new aZ.out)
   have jR:=hJ (PIo.new eU.out aZ.out)
   have jS:=hJ (gP.out.new aZ.out)
   have jT:=hJ (PIo.new eA.out aZ.out)
   have jU:=hJ (bt jD.out aZ.out)
   clear gQ iS iT iU iV iW iX iY iZ jA jB jC iR eU gP eA jD aZ
   go_wp2_with fail
   refine (fproduct_any [sp] p sa Aa na ca x4.heap.size 1 x5 (gT.out.1) bB.out.2.2.1 jE.out.1 jE.out.2 rfl (by decide)).mono ?_
   rw [(pv_one (p) (sp)).1,(pv_one (p) (sp)).2]
   rintro e w6 ⟨s6,A6,n6,c6,rfl,hr6,hb6⟩
   obtain ⟨x6,eV⟩:=nmz (w6.alloc (.cells #[.bool s6,.slice A6 n6 c6] 33))
   have bA:=hJ (show Below x5.heap.size x5 x6 by rw [←eV]; exact hb6.alloc hb6.size _)
   have jV:=hJ (show P2 33 x6 w6.heap.size (.bool s6) (.slice A6 n6 c6) by rw [←eV]; exact P2.lit _ _ _ _)
   have jW:=hJ (show PI x6 s6 A6 n6 c6 (outV (p*sp)) by rw [←eV]; exact PIo.new hr6 ((Below.refl _ _).alloc (Nat.le_refl _) _))
   have hn6:n6≤512:=plim hr6 (outV_lim _)
   clear hr6 hb6
   have jX:=hJ (jF.out.new bA.out)
   have jY:=hJ (gT.out.new bA.out)
   have gU:=hJ (jG.out.new bA.out)
   have jZ:=hJ (jH.out.new bA.out)
   have kA:=hJ (jI.out.new bA.out)
   have kB:=hJ (jJ.out.new bA.out)
   have kC:=hJ (jK.out.new bA.out)
   have kD:=hJ (PIo.new jL.out bA.out)
   have kE:=hJ (jM.out.new bA.out)
   have kF:=hJ (PIo.new jN.out bA.out)
   have kG:=hJ (jO.out.new bA.out)
   have kH:=hJ (PIo.new jP.out bA.out)
   have gV:=hJ (jQ.out.new bA.out)
   have gW:=hJ (PIo.new jR.out bA.out)
   have kI:=hJ (jS.out.new bA.out)
   have kJ:=hJ (PIo.new jT.out bA.out)
   have kK:=hJ (bt jU.out bA.out)
   clear jF gT jG jH jI jJ jK jL jM jN jO jP jQ jR jS jT jU cla0_4 cla1_4 cla2_4 cla3_4 clsp0_5 clsp1_5 gR bA
   obtain ⟨clb0_6,clb1_6,clb2_6,clb3_6⟩:=gU.out.cells
   obtain ⟨clqp0_7,clqp1_7⟩:=gV.out.cells
   obtain ⟨x7,gX⟩:=nmz (x6.alloc (.cells #[.bool s4a,.slice A4a n4a c4a] 33))
   have aV:=hJ (show Below x6.heap.size x6 x7 by rw [←gX]; exact (Below.refl _ _).alloc (Nat.le_refl _) _)
   have kL:=hJ (show Pel x7 x6.heap.size [qp]∧x6.heap.size < x7.heap.size by rw [←gX]; exact ⟨pel_lit1 gW.out aY.out.2.2.1,by simp⟩)
   have kM:=hJ (jX.out.new aV.out)
   have kN:=hJ (jY.out.new aV.out)
   have kO:=hJ (gU.out.new aV.out)
   have gY:=hJ (jZ.out.new aV.out)
   have kP:=hJ (kA.out.new aV.out)
   have kQ:=hJ (kB.out.new aV.out)
   have kR:=hJ (kC.out.new aV.out)
   have kS:=hJ (PIo.new kD.out aV.out)
   have kT:=hJ (kE.out.new aV.out)
   have kU:=hJ (PIo.new kF.out aV.out)
   have kV:=hJ (kG.out.new aV.out)
   have kW:=hJ (PIo.new kH.out aV.out)
   have kX:=hJ (gV.out.new aV.out)
   have kY:=hJ (PIo.new gW.out aV.out)
   have kZ:=hJ (kI.out.new aV.out)
   have lA:=hJ (PIo.new kJ.out aV.out)
   have lB:=hJ (jV.out.new aV.out)
   have lC:=hJ (PIo.new jW.out aV.out)
   have lD:=hJ (bt kK.out aV.out)
   clear jX jY gU jZ kA kB kC kD kE kF kG kH gV gW kI kJ jV jW kK aV
   go_wp2_with fail
   refine (fproduct_any [qp] r sd Ad nd cd x6.heap.size 1 x7 (gY.out.1) bB.out.2.2.2.2.1 kL.out.1 kL.out.2 rfl (by decide)).mono ?_
   rw [(pv_one (r) (qp)).1,(pv_one (r) (qp)).2]
   rintro e w8 ⟨s8,A8,n8,c8,rfl,hr8,hb8⟩
   obtain ⟨x8,eW⟩:=nmz (w8.alloc (.cells #[.bool s8,.slice A8 n8 c8] 33))
   have aW:=hJ (show Below x7.heap.size x7 x8 by rw [←eW]; exact hb8.alloc hb8.size _)
   have lE:=hJ (show P2 33 x8 w8.heap.size (.bool s8) (.slice A8 n8 c8) by rw [←eW]; exact P2.lit _ _ _ _)
   have lF:=hJ (show PI x8 s8 A8 n8 c8 (outV (r*qp)) by rw [←eW]; exact PIo.new hr8 ((Below.refl _ _).alloc (Nat.le_refl _) _))
   have hn8:n8≤512:=plim hr8 (outV_lim _)
   clear hr8 hb8
   have lG:=hJ (kM.out.new aW.out)
   have lH:=hJ (kN.out.new aW.out)
   have lI:=hJ (kO.out.new aW.out)
   have lJ:=hJ (gY.out.new aW.out)
   have lK:=hJ (kP.out.new aW.out)
   have lL:=hJ (kQ.out.new aW.out)
   have lM:=hJ (kR.out.new aW.out)
   have lN:=hJ (PIo.new kS.out aW.out)
   have gZ:=hJ (kT.out.new aW.out)
   have hA:=hJ (PIo.new kU.out aW.out)
   have lO:=hJ (kV.out.new aW.out)
   have lP:=hJ (PIo.new kW.out aW.out)
   have hB:=hJ (kX.out.new aW.out)
   have lQ:=hJ (PIo.new kY.out aW.out)
   have lR:=hJ (kZ.out.new aW.out)
   have lS:=hJ (PIo.new lA.out aW.out)
   have lT:=hJ (lB.out.new aW.out)
   have lU:=hJ (PIo.new lC.out aW.out)
   have lV:=hJ (bt lD.out aW.out)
   clear kM kN kO gY kP kQ kR kS kT kU kV kW kX kY kZ lA lB lC lD eV clb0_6 clb1_6 clb2_6 clb3_6 clqp0_7 clqp1_7 gX aW
   obtain ⟨clqp0_8,clqp1_8⟩:=hB.out.cells
   obtain ⟨cls0_9,cls1_9⟩:=gZ.out.cells
   obtain ⟨x9,hC⟩:=nmz (x8.alloc (.cells #[.bool s2b,.slice A2b n2b c2b] 33))
   have aT:=hJ (show Below x8.heap.size x8 x9 by rw [←hC]; exact (Below.refl _ _).alloc (Nat.le_refl _) _)
   have lW:=hJ (show Pel x9 x8.heap.size [s]∧x8.heap.size < x9.heap.size by rw [←hC]; exact ⟨pel_lit1 hA.out bB.out.2.2.2.2.2,by simp⟩)
   have lX:=hJ (lG.out.new aT.out)
   have lY:=hJ (lH.out.new aT.out)
   have lZ:=hJ (lI.out.new aT.out)
   have mA:=hJ (lJ.out.new aT.out)
   have mB:=hJ (lK.out.new aT.out)
   have mC:=hJ (lL.out.new aT.out)
   have mD:=hJ (lM.out.new aT.out)
   have mE:=hJ (PIo.new lN.out aT.out)
   have mF:=hJ (gZ.out.new aT.out)
   have mG:=hJ (PIo.new hA.out aT.out)
   have mH:=hJ (lO.out.new aT.out)
   have mI:=hJ (PIo.new lP.out aT.out)
   have mJ:=hJ (hB.out.new aT.out)
   have hE:=hJ (PIo.new lQ.out aT.out)
   have mK:=hJ (lR.out.new aT.out)
   have mL:=hJ (PIo.new lS.out aT.out)
   have mM:=hJ (lT.out.new aT.out)
   have mN:=hJ (PIo.new lU.out aT.out)
   have mO:=hJ (lE.out.new aT.out)
   have mP:=hJ (PIo.new lF.out aT.out)
   have mQ:=hJ (bt lV.out aT.out)
   clear lG lH lI lJ lK lL lM lN gZ hA lO lP hB lQ lR lS lT lU lE lF lV aT
   go_wp2_with fail
   refine (fproduct_any [s] qp s4a A4a n4a c4a x8.heap.size 1 x9 (hE.out) aY.out.2.2.1 lW.out.1 lW.out.2 rfl (by decide)).mono ?_
   rw [(pv_one (qp) (s)).1,(pv_one (qp) (s)).2]
   rintro e w10 ⟨s10,A10,n10,c10,rfl,hr10,hb10⟩
   obtain ⟨x10,eX⟩:=nmz (w10.alloc (.cells #[.bool s10,.slice A10 n10 c10] 33))
   have aU:=hJ (show Below x9.heap.size x9 x10 by rw [←eX]; exact hb10.alloc hb10.size _)
   have mR:=hJ (show P2 33 x10 w10.heap.size (.bool s10) (.slice A10 n10 c10) by rw [←eX]; exact P2.lit _ _ _ _)
   have mS:=hJ (show PI x10 s10 A10 n10 c10 (outV (qp*s)) by rw [←eX]; exact PIo.new hr10 ((Below.refl _ _).alloc (Nat.le_refl _) _))
   have hn10:n10≤512:=plim hr10 (outV_lim _)
   clear hr10 hb10
   have mT:=hJ (lX.out.new aU.out)
   have mU:=hJ (lY.out.new aU.out)
   have mV:=hJ (lZ.out.new aU.out)
   have mW:=hJ (mA.out.new aU.out)
   have mX:=hJ (mB.out.new aU.out)
   have mY:=hJ (mC.out.new aU.out)
   have mZ:=hJ (mD.out.new aU.out)
   have nA:=hJ (PIo.new mE.out aU.out)
   have nB:=hJ (mF.out.new aU.out)
   have nC:=hJ (PIo.new mG.out aU.out)
   have nD:=hJ (mH.out.new aU.out)
   have nE:=hJ (PIo.new mI.out aU.out)
   have nF:=hJ (mJ.out.new aU.out)
   have nG:=hJ (PIo.new hE.out aU.out)
   have nH:=hJ (mK.out.new aU.out)
   have nJ:=hJ (PIo.new mL.out aU.out)
   have hG:=hJ (mM.out.new aU.out)
   have hI:=hJ (PIo.new mN.out aU.out)
   have hL:=hJ (mO.out.new aU.out)
   have hM:=hJ (PIo.new mP.out aU.out)
   have nK:=hJ (bt mQ.out aU.out)
   clear lX lY lZ mA mB mC mD mE mF mG mH mI mJ hE mK mL mM mN mO mP mQ eW clqp0_8 clqp1_8 cls0_9 cls1_9 hC aU
   obtain ⟨clleft0_11,clleft1_11⟩:=hG.out.cells
   obtain ⟨clright0_11,clright1_11⟩:=hL.out.cells
   go_wp2_with fail
   refine (padd_any (outV (p*sp)) (outV (r*qp)) s6 s8 A6 A8 n6 c6 n8 c8 x10 hI.out hM.out (by omega) (by omega) (outV_lim _) (outV_lim _)).mono ?_
   rintro e w11 ⟨s11,A11,n11,c11,rfl,hr11,hb11⟩
   obtain ⟨x11,eY⟩:=nmz (w11.alloc (.cells #[.bool s11,.slice A11 n11 c11] 33))
   have aM:=hJ (show Below x10.heap.size x10 x11 by rw [←eY]; exact hb11.alloc hb11.size _)
   have nL:=hJ (show P2 33 x11 w11.heap.size (.bool s11) (.slice A11 n11 c11) by rw [←eY]; exact P2.lit _ _ _ _)
   have nM:=hJ (show PI x11 s11 A11 n11 c11 (outV (outV (p*sp)+outV (r*qp))) by rw [←eY]; exact PIo.new hr11 ((Below.refl _ _).alloc (Nat.le_refl _) _))
   have hn11:n11≤512:=plim hr11 (outV_lim _)
   clear hr11 hb11
   have nN:=hJ (mT.out.new aM.out)
   have nO:=hJ (mU.out.new aM.out)
   have nP:=hJ (mV.out.new aM.out)
   have nQ:=hJ (mW.out.new aM.out)
   have nR:=hJ (mX.out.new aM.out)
   have nS:=hJ (mY.out.new aM.out)
   have nT:=hJ (mZ.out.new aM.out)
   have nU:=hJ (PIo.new nA.out aM.out)
   have nW:=hJ (nB.out.new aM.out)
   have nX:=hJ (PIo.new nC.out aM.out)
   have nY:=hJ (nD.out.new aM.out)
   have nZ:=hJ (PIo.new nE.out aM.out)
   have oA:=hJ (nF.out.new aM.out)
   have oB:=hJ (PIo.new nG.out aM.out)
   have oC:=hJ (nH.out.new aM.out)
   have oD:=hJ (PIo.new nJ.out aM.out)
   have oE:=hJ (hG.out.new aM.out)
   have oF:=hJ (PIo.new hI.out aM.out)
   have oG:=hJ (hL.out.new aM.out)
   have oH:=hJ (PIo.new hM.out aM.out)
   have oI:=hJ (mR.out.new aM.out)
   have oJ:=hJ (PIo.new mS.out aM.out)
   have oK:=hJ (bt nK.out aM.out)
   clear mT mU mV mW mX mY mZ nA nB nC nD nE nF nG nH nJ hG hI hL hM mR mS nK eX clleft0_11 clleft1_11 clright0_11 clright1_11 aM
   obtain ⟨x12,hO⟩:=nmz (x11.alloc (.cells #[.int .i64 (outC (p*sp)),.int .i64 (outC (r*qp)),.int .i64 (outC (outV (p*sp)+outV (r*qp))),.int .i64 (outC (qp*s))] 40))
   have aL:=hJ (show Below x11.heap.size x11 x12 by rw [←hO]; exact (Below.refl _ _).alloc (Nat.le_refl _) _)
   have oW:=hJ (show Codes x12 x11.heap.size [outC (p*sp),outC (r*qp),outC (outV (p*sp)+outV (r*qp)),outC (qp*s)] by rw [←hO]; exact codes_lit4 _ _ _ _)
   have oX:=hJ (nN.out.new aL.out)
   have oY:=hJ (nO.out.new aL.out)
   have oZ:=hJ (nP.out.new aL.out)
   have pA:=hJ (nQ.out.new aL.out)
   have cF:=hJ (nR.out.new aL.out)
   have pB:=hJ (nS.out.new aL.out)
   have pC:=hJ (nT.out.new aL.out)
   have pD:=hJ (PIo.new nU.out aL.out)
   have pE:=hJ (nW.out.new aL.out)
   have pF:=hJ (PIo.new nX.out aL.out)
   have oL:=hJ (nY.out.new aL.out)
   have oM:=hJ (PIo.new nZ.out aL.out)
   have pG:=hJ (oA.out.new aL.out)
   have pH:=hJ (PIo.new oB.out aL.out)
   have pI:=hJ (oC.out.new aL.out)
   have pJ:=hJ (PIo.new oD.out aL.out)
   have pK:=hJ (oE.out.new aL.out)
   have pL:=hJ (PIo.new oF.out aL.out)
   have pM:=hJ (oG.out.new aL.out)
   have pN:=hJ (PIo.new oH.out aL.out)
   have oN:=hJ (oI.out.new aL.out)
   have eZ:=hJ (PIo.new oJ.out aL.out)
   have hP:=hJ (nL.out.new aL.out)
   have eB:=hJ (PIo.new nM.out aL.out)
   have hQ:=hJ (bt oK.out aL.out)
   clear nN nO nP nQ nR nS nT nU nW nX nY nZ oA oB oC oD oE oF oG oH oI oJ nL nM oK aL
   go_wp2_with fail
   refine (ferror_any [outC (p*sp),outC (r*qp),outC (outV (p*sp)+outV (r*qp)),outC (qp*s)] x11.heap.size 4 x12 oW.out rfl (by decide)).mono ?_
   have eC:=hJ (ad_codes (p:=p) (r:=r) cJ.out.1 cJ.out.2.1 cJ.out.2.2 aY.out.1 aY.out.2.1)
   obtain ⟨u,hu⟩:∃ u,feV [outC (p*sp),outC (r*qp),outC (outV (p*sp)+outV (r*qp)),outC (qp*s)]=u:=⟨_,rfl⟩
   rw [hu] at eC ⊢
   clear hu
   rintro e w' ⟨rfl,rfl⟩
   by_cases hu:u=0
   ·have HE:=hJ (eC.out.1 hu)
    subst hu
    clear eC
    rw [HE.out.1] at eB
    rw [HE.out.2.1] at eZ
    obtain ⟨N,hN⟩:∃ x,adN p q r s=x:=⟨_,rfl⟩
    obtain ⟨D,hD⟩:∃ x,adD q s=x:=⟨_,rfl⟩
    rw [hN] at eB HE
    rw [hD] at eZ HE
    have oO:=hJ (And.intro hN hD)
    clear hN hD
    clear oY oX pA oZ pD pC pF pE pH pG pJ pI pL pK pN pM
    obtain ⟨clnum0_14,clnum1_14⟩:=hP.out.cells
    obtain ⟨clg0_14,clg1_14⟩:=oL.out.cells
    go_wp2_with fail
    refine (fcommon_any N g s11 s3 A11 A3 n11 c11 n3 c3 x12 eB.out oM.out (by omega) (by omega)).mono ?_
    rintro e w14 ⟨s14,A14,n14,c14,rfl,hr14,hb14⟩
    obtain ⟨x14,fA⟩:=nmz (w14.alloc (.cells #[.bool s14,.slice A14 n14 c14] 33))
    have cZ:=hJ (show Below x12.heap.size x12 x14 by rw [←fA]; exact hb14.alloc hb14.size _)
    have hR:=hJ (show P2 33 x14 w14.heap.size (.bool s14) (.slice A14 n14 c14) by rw [←fA]; exact P2.lit _ _ _ _)
    have oP:=hJ (show PI x14 s14 A14 n14 c14 (((Nat.gcd N.natAbs g.natAbs:Nat):Int)) by rw [←fA]; exact PIo.new hr14 ((Below.refl _ _).alloc (Nat.le_refl _) _))
    have hn14:n14≤512:=plim hr14 HE.out.2.2.2.2.1
    clear hr14 hb14
    have fB:=hJ (cF.out.new cZ.out)
    have hS:=hJ (oN.out.new cZ.out)
    have pO:=hJ (PIo.new eZ.out cZ.out)
    have hT:=hJ (hP.out.new cZ.out)
    have pP:=hJ (PIo.new eB.out cZ.out)
    have pQ:=hJ (bt hQ.out cZ.out)
    clear cF pB oL oM oN eZ hP eB hQ eY hO clnum0_14 clnum1_14 clg0_14 clg1_14 cZ
    have fC:=hJ HE.out.2.2.2.2
    obtain ⟨H,hH⟩:∃ x,((Nat.gcd N.natAbs g.natAbs:Nat):Int)=x:=⟨_,rfl⟩
    rw [hH] at oP fC
    have pR:=hJ hH
    clear hH
    obtain ⟨gN,hgN⟩:∃ g,w11.heap.size=g:=⟨_,rfl⟩
    obtain ⟨gD,hgD⟩:∃ g,w10.heap.size=g:=⟨_,rfl⟩
    obtain ⟨gS,hgS⟩:∃ g,w14.heap.size=g:=⟨_,rfl⟩
    rw [hgN] at hT
    rw [hgD] at hS
    rw [hgS] at hR
    have hU:=hJ (show gN≠h+1+1∧gD≠h+1+1∧gS≠h+1+1 from ⟨P2_ne_P4 hT.out fB.out,P2_ne_P4 hS.out fB.out,P2_ne_P4 hR.out fB.out⟩)
    go_upto_region 12 with fail
    clear hgN hgD hgS fA
    have hX:=hJ (ad_ok HE.out.2.2.1 HE.out.2.2.2.1 oO.out.1 oO.out.2 cJ.out.1 pR.out)
    obtain ⟨v0,hv0⟩:=nmz (World.drew x14)
    have aH:=hJ (show Below x14.heap.size x14 v0 by rw [←hv0]; exact (Below.refl _ _).drew)
    have cM:=hJ (bt pQ.out aH.out)
    have num_0:=hJ (PIo.new pP.out aH.out)
    have den_0:=hJ (PIo.new pO.out aH.out)
    have sh_0:=hJ (PIo.new oP.out aH.out)
    have fD:=hJ (hT.out.new aH.out)
    have fE:=hJ (hS.out.new aH.out)
    have fF:=hJ (hR.out.new aH.out)
    have oQ:=hJ (fB.out.new aH.out)
    refine wp_region_held_drew (S:=(fun w':World=>w'.cell? ⟨gN,0,none⟩=some (.bool s11)∧w'.cell? ⟨gN,1,none⟩=some (.slice A11 n11 c11)∧w'.cell? ⟨gD,0,none⟩=some (.bool s10)∧w'.cell? ⟨gD,1,none⟩=some (.slice A10 n10 c10)∧w'.cell? ⟨gS,0,none⟩=some (.bool s14)∧w'.cell? ⟨gS,1,none⟩=some (.slice A14 n14 c14)∧Below w.heap.size w w')) (by kernel_rfl) ?_ (fun hHeld=>?_)
    ·rw [hv0]
     exact ⟨fD.out.cells.1,fD.out.cells.2,fE.out.cells.1,fE.out.cells.2,fF.out.cells.1,fF.out.cells.2,cM.out⟩
    rw [hv0] at hHeld ⊢
    clear hv0 aH
    refine tq 0 ?_
    refine tq 1 ?_
    refine tq 3 ?_
    refine tq 4 ?_
    try simp only [PT]
    refine ryy [2] ?_
    refine .cons rfl (fun K hK=>?_) .nil
    go_simp
    go_at_call_of 95 (#[Value.agg #[.bool s11,.slice A11 n11 c11],Value.agg #[.bool s14,.slice A14 n14 c14]])
    refine (fdivided_any N H s11 s14 A11 A14 n11 c11 n14 c14 v0 (num_0.out) (sh_0.out) (by omega) (by omega) fC.out.2.1).mono ?_
    rintro e v1 ⟨t5,T5,m5,d5,rfl,hr,hk⟩
    have R5_1:=hJ (hr)
    have cG:=hJ hk
    go_wp2_with fail
    have bY:=hJ (bt cM.out cG.out)
    have num_1:=hJ (PIo.new num_0.out cG.out)
    have den_1:=hJ (PIo.new den_0.out cG.out)
    have sh_1:=hJ (PIo.new sh_0.out cG.out)
    have fG:=hJ (fD.out.new cG.out)
    have fH:=hJ (fE.out.new cG.out)
    have fI:=hJ (fF.out.new cG.out)
    have oR:=hJ (oQ.out.new cG.out)
    clear hHeld
    refine hK.out _ _ (⟨fG.out.cells.1,fG.out.cells.2,fH.out.cells.1,fH.out.cells.2,fI.out.cells.1,fI.out.cells.2,bY.out⟩) (fun hHeld=>?_)
    clear hK K hk cG hr cM num_0 den_0 sh_0 fD fE fF oQ
    try simp only [PT]
    refine ryy [5] ?_
    refine .cons rfl (fun K hK=>?_) .nil
    go_simp
    go_at_call_of 95 (#[Value.agg #[.bool s10,.slice A10 n10 c10],Value.agg #[.bool s14,.slice A14 n14 c14]])
    refine (fdivided_any D H s10 s14 A10 A14 n10 c10 n14 c14 v1 (den_1.out) (sh_1.out) (by omega) (by omega) fC.out.2.1).mono ?_
    rintro e v2 ⟨t6,T6,m6,d6,rfl,hr,hk⟩
    have R6_2:=hJ (hr)
    have cC:=hJ hk
    go_wp2_with fail
    have cD:=hJ (bt bY.out cC.out)
    have num_2:=hJ (PIo.new num_1.out cC.out)
    have den_2:=hJ (PIo.new den_1.out cC.out)
    have sh_2:=hJ (PIo.new sh_1.out cC.out)
    have R5_2:=hJ (PIo.new R5_1.out cC.out)
    have fJ:=hJ (fG.out.new cC.out)
    have fK:=hJ (fH.out.new cC.out)
    have fL:=hJ (fI.out.new cC.out)
    have oS:=hJ (oR.out.new cC.out)
    clear hHeld
    refine hK.out _ _ (⟨fJ.out.cells.1,fJ.out.cells.2,fK.out.cells.1,fK.out.cells.2,fL.out.cells.1,fL.out.cells.2,cD.out⟩) (fun hHeld=>?_)
    clear hK K hk cC hr bY num_1 den_1 sh_1 R5_1 fG fH fI oR
    try simp only [PT]
    refine ryy [6] ?_
    refine .cons rfl (fun K hK=>?_) .nil
    go_simp
    go_at_call 96
    refine (flowest_any (N / H) (D / H) t5 t6 T5 T6 m5 d5 m6 d6 v2 (R5_2.out) (R6_2.out) (by have:=plim R6_2.out fC.out.2.2.2; omega)).mono ?_
    rintro e v3 ⟨t7,T7,m7,d7,t8,T8,m8,d8,rfl,hr,hk⟩
    have R7_3:=hJ (hr)
    have aI:=hJ hk
    go_wp2_with fail
    have cE:=hJ (bt cD.out aI.out)
    have num_3:=hJ (PIo.new num_2.out aI.out)
    have den_3:=hJ (PIo.new den_2.out aI.out)
    have sh_3:=hJ (PIo.new sh_2.out aI.out)
    have R5_3:=hJ (PIo.new R5_2.out aI.out)
    have R6_3:=hJ (PIo.new R6_2.out aI.out)
    have fM:=hJ (fJ.out.new aI.out)
    have fN:=hJ (fK.out.new aI.out)
    have fO:=hJ (fL.out.new aI.out)
    have bQ:=hJ (oS.out.new aI.out)
    clear hHeld
    refine hK.out _ _ (⟨fM.out.cells.1,fM.out.cells.2,fN.out.cells.1,fN.out.cells.2,fO.out.cells.1,fO.out.cells.2,cE.out⟩) (fun hHeld=>?_)
    clear hK K hk aI hr cD num_2 den_2 sh_2 R5_2 R6_2 fJ fK fL oS
    try simp only [PT]
    refine ryy [7] ?_
    refine .cons rfl (fun K hK=>?_) .nil
    obtain ⟨z0,z1,z2,z3⟩:=bQ.out.cells
    have y0:=bQ.out.frozen 0
    have y1:=bQ.out.frozen 1
    have y2:=bQ.out.frozen 2
    have y3:=bQ.out.frozen 3
    have z9:=bQ.out.lt
    go_simp
    obtain ⟨v4,hV⟩:=nmz (World.setCell (World.setCell (World.setCell (World.setCell v3 ⟨(h+1+1),0,none⟩ (.bool t7)) ⟨(h+1+1),1,none⟩ (.slice T7 m7 d7)) ⟨(h+1+1),2,none⟩ (.bool t8)) ⟨(h+1+1),3,none⟩ (.slice T8 m8 d8))
    rw [hV]
    have cH:=hJ (show Below w.heap.size w v4 by rw [←hV]; exact below_box4 cE.out (by rw [HH.out]; omega) _ _ _ _)
    have num_4:=hJ (show PI v4 s11 A11 n11 c11 N by rw [←hV]; exact PIo.box4 (num_3.out) (bQ.out) rfl rfl rfl rfl (.bool t7) (.slice T7 m7 d7) (.bool t8) (.slice T8 m8 d8))
    have den_4:=hJ (show PI v4 s10 A10 n10 c10 D by rw [←hV]; exact PIo.box4 (den_3.out) (bQ.out) rfl rfl rfl rfl (.bool t7) (.slice T7 m7 d7) (.bool t8) (.slice T8 m8 d8))
    have sh_4:=hJ (show PI v4 s14 A14 n14 c14 H by rw [←hV]; exact PIo.box4 (sh_3.out) (bQ.out) rfl rfl rfl rfl (.bool t7) (.slice T7 m7 d7) (.bool t8) (.slice T8 m8 d8))
    have R5_4:=hJ (show PI v4 t5 T5 m5 d5 (N / H) by rw [←hV]; exact PIo.box4 (R5_3.out) (bQ.out) rfl rfl rfl rfl (.bool t7) (.slice T7 m7 d7) (.bool t8) (.slice T8 m8 d8))
    have R6_4:=hJ (show PI v4 t6 T6 m6 d6 (D / H) by rw [←hV]; exact PIo.box4 (R6_3.out) (bQ.out) rfl rfl rfl rfl (.bool t7) (.slice T7 m7 d7) (.bool t8) (.slice T8 m8 d8))
    have R7_4:=hJ (show PF v4 t7 T7 m7 d7 t8 T8 m8 d8 (N / H) (D / H) by rw [←hV]; exact PF.box4 (R7_3.out) (bQ.out) (.bool t7) (.slice T7 m7 d7) (.bool t8) (.slice T8 m8 d8))
    have oT:=hJ (show P2 33 v4 gN (.bool s11) (.slice A11 n11 c11) by rw [←hV]; exact fM.out.far4 (show gN≠(h+1+1) from hU.out.1) (.bool t7) (.slice T7 m7 d7) (.bool t8) (.slice T8 m8 d8))
    have oU:=hJ (show P2 33 v4 gD (.bool s10) (.slice A10 n10 c10) by rw [←hV]; exact fN.out.far4 (show gD≠(h+1+1) from hU.out.2.1) (.bool t7) (.slice T7 m7 d7) (.bool t8) (.slice T8 m8 d8))
    have oV:=hJ (show P2 33 v4 gS (.bool s14) (.slice A14 n14 c14) by rw [←hV]; exact fO.out.far4 (show gS≠(h+1+1) from hU.out.2.2) (.bool t7) (.slice T7 m7 d7) (.bool t8) (.slice T8 m8 d8))
    have pS:=hJ (show P4 35 v4 (h+1+1) (.bool t7) (.slice T7 m7 d7) (.bool t8) (.slice T8 m8 d8) by rw [←hV]; exact bQ.out.all (.bool t7) (.slice T7 m7 d7) (.bool t8) (.slice T8 m8 d8))
    clear hHeld
    refine hK.out _ _ (⟨oT.out.cells.1,oT.out.cells.2,oU.out.cells.1,oU.out.cells.2,oV.out.cells.1,oV.out.cells.2,cH.out⟩) (fun hHeld=>?_)
    clear hK K hV z9 z0 z1 z2 z3 y0 y1 y2 y3 cE num_3 den_3 sh_3 R5_3 R6_3 R7_3 fM fN fO bQ
    refine tq 8 ?_
    try simp only [PT]
    refine wpAnyH_done (by kernel_rfl) ?_ _
    clear hHeld
    go_wp2
    exact bodyPost_ret (results_cell1 rfl _ _ _ _ _ _ _ rfl (pS.out) Tryz.underlying35 rfl F_size) rfl (by rw [hX.out.1,hX.out.2.1,hX.out.2.2]; exact ⟨t7,T7,m7,d7,t8,T8,m8,d8,rfl,R7_4.out,cH.out⟩)
   ·have fP:=hJ (eC.out.2 hu)
    have hub:(u == 0)=false:=by simp [hu]
    have hue:u=4:=fP.out.2.2.2
    subst hue
    clear hu eC hub
    obtain ⟨z0,z1,z2,z3⟩:=cF.out.cells
    have f0:=cF.out.frozen 0
    have f1:=cF.out.frozen 1
    have f2:=cF.out.frozen 2
    have f3:=cF.out.frozen 3
    go_wp2
    exact bodyPost_ret (results_cell1 rfl _ _ _ _ _ _ _ rfl (cF.out.all (.bool false) (.slice none 0 0) (.bool false) (.slice none 0 0)) Tryz.underlying35 rfl F_size) rfl (by rw [fP.out.1,fP.out.2.1,fP.out.2.2.1]; exact RetFE.stored (p:=0) (q:=1) ⟨PI.zero _,PI.zero _⟩ cF.out hQ.out (by rw [HH.out]; omega) _ _ _ _)

end Go.Proofs.YtdgicnhadecldaaGreat
