/- Contracts of the program's fractions: Add. Conditions: as each statement has them. -/
import Derived.Test.YtagakcficjcfhaaGreatFD
import Derived.Deep.DeepCutAuto
namespace Go.Proofs.YtagakcficjcfhaaGreat
set_option maxRecDepth 100000
set_option maxHeartbeats 12800000
open Go.RowKit
attribute [local go_sem ↓] Go.wp_at_zero Go.wp_at_succ
def W444 (t:TypeId) (w:World) (a0 a1 a2 a3 b0 b1 b2 b3 z0 z1 z2 z3:Value):World:=((w.alloc (.cells #[a0,a1,a2,a3] t)).alloc (.cells #[b0,b1,b2,b3] t)).alloc (.cells #[z0,z1,z2,z3] t)
section
variable (t:TypeId) (w:World) (a0 a1 a2 a3 b0 b1 b2 b3 z0 z1 z2 z3:Value)
theorem W444_a:P4 t (W444 t w a0 a1 a2 a3 b0 b1 b2 b3 z0 z1 z2 z3) w.heap.size a0 a1 a2 a3:=((P4.lit w t a0 a1 a2 a3).new ((Below.refl _ _).alloc (Nat.le_refl _) _)).new ((Below.refl _ _).alloc (Nat.le_refl _) _)
theorem W444_b:P4 t (W444 t w a0 a1 a2 a3 b0 b1 b2 b3 z0 z1 z2 z3) (w.heap.size+1) b0 b1 b2 b3:=by
 have:=P4.lit (w.alloc (.cells #[a0,a1,a2,a3] t)) t b0 b1 b2 b3
 rw [World.size_alloc] at this
 exact this.new ((Below.refl _ _).alloc (Nat.le_refl _) _)
theorem W444_z:P4 t (W444 t w a0 a1 a2 a3 b0 b1 b2 b3 z0 z1 z2 z3) (w.heap.size+1+1) z0 z1 z2 z3:=by
 have:=P4.lit ((w.alloc (.cells #[a0,a1,a2,a3] t)).alloc (.cells #[b0,b1,b2,b3] t)) t z0 z1 z2 z3
 rw [World.size_alloc,World.size_alloc] at this
 exact this
theorem W444_k:Below w.heap.size w (W444 t w a0 a1 a2 a3 b0 b1 b2 b3 z0 z1 z2 z3):=(((Below.refl _ w).alloc (Nat.le_refl _) _).alloc (by simp) _).alloc (by simp; omega) _
end
def adG (q s:Int):Int:=((Nat.gcd q.natAbs s.natAbs:Nat):Int)
def adN (p q r s:Int):Int:=p*(s / adG q s)+r*(q / adG q s)
def adD (q s:Int):Int:=q / adG q s*s
/-- Everything on the way is in range. -/
def adK (p q r s:Int):Prop:=(p*(s / adG q s)).natAbs < lim∧(r*(q / adG q s)).natAbs < lim∧(adN p q r s).natAbs < lim∧(adD q s).natAbs < lim
instance (p q r s:Int):Decidable (adK p q r s):=by unfold adK; infer_instance
def adH (p q r s:Int):Int:=((Nat.gcd (adN p q r s).natAbs (adG q s).natAbs:Nat):Int)
def adP (p q r s:Int):Int:=if adK p q r s then adN p q r s / adH p q r s else 0
def adQ (p q r s:Int):Int:=if adK p q r s then adD q s / adH p q r s else 1
def adC (p q r s:Int):Int:=if adK p q r s then 0 else 4
theorem ad_gcd {q s:Int} (hq:0 < q) (_:0 < s) (hlq:q.natAbs < lim) (hls:s.natAbs < lim):adG q s≠0∧(adG q s).natAbs < lim∧(q / adG q s).natAbs < lim∧(s / adG q s).natAbs < lim:=by
 have h1:=Nat.gcd_pos_of_pos_left s.natAbs (show 0 < q.natAbs by omega)
 have h2:=Nat.gcd_le_left s.natAbs (show 0 < q.natAbs by omega)
 refine ⟨by unfold adG; omega,by unfold adG; rw [Int.natAbs_natCast]; omega,Nat.lt_of_le_of_lt (Int.natAbs_ediv_le_natAbs _ _) hlq,Nat.lt_of_le_of_lt (Int.natAbs_ediv_le_natAbs _ _) hls⟩
theorem codes_lit4 {w:World} {t:TypeId} (a b c d:Int):Codes (w.alloc (.cells #[.int .i64 a,.int .i64 b,.int .i64 c,.int .i64 d] t)) w.heap.size [a,b,c,d]:=by
 have hh:=(P4.lit w t (.int .i64 a) (.int .i64 b) (.int .i64 c) (.int .i64 d)).cells
 intro i hi
 match i,hi with
 | 0,_=>exact hh.1
 | 1,_=>exact hh.2.1
 | 2,_=>exact hh.2.2.1
 | 3,_=>exact hh.2.2.2
theorem P2_ne_P4 {t u:TypeId} {w:World} {b c:Nat} {x0 x1 y0 y1 y2 y3:Value} (h:P2 t w b x0 x1) (k:P4 u w c y0 y1 y2 y3):b≠c:=by
 intro e
 subst e
 unfold P2 at h
 unfold P4 at k
 rw [h] at k
 injection k with k
 injection k with k
 exact absurd (congrArg Array.size k) (by simp)
theorem ad_codes {p q r s g qp sp:Int} (hg:adG q s=g) (hq:q / g=qp) (hs:s / g=sp) (h0:g≠0) (hl:g.natAbs < lim) :
  (feV [outC (p*sp),outC (r*qp),outC (outV (p*sp)+outV (r*qp)),outC (qp*s)]=0→outV (outV (p*sp)+outV (r*qp))=adN p q r s∧outV (qp*s)=adD q s∧adK p q r s∧True∧((Nat.gcd (adN p q r s).natAbs g.natAbs:Nat):Int).natAbs < lim∧((Nat.gcd (adN p q r s).natAbs g.natAbs:Nat):Int)≠0∧True∧(adD q s / ((Nat.gcd (adN p q r s).natAbs g.natAbs:Nat):Int)).natAbs < lim) ∧
  (feV [outC (p*sp),outC (r*qp),outC (outV (p*sp)+outV (r*qp)),outC (qp*s)]≠0→adP p q r s=0∧adQ p q r s=1∧adC p q r s=4∧feV [outC (p*sp),outC (r*qp),outC (outV (p*sp)+outV (r*qp)),outC (qp*s)]=4):=by
 have eN:adN p q r s=p*sp+r*qp:=by unfold adN; rw [hg,hq,hs]
 have eD:adD q s=qp*s:=by unfold adD; rw [hg,hq]
 have eK:adK p q r s↔(p*sp).natAbs < lim∧(r*qp).natAbs < lim∧(p*sp+r*qp).natAbs < lim∧(qp*s).natAbs < lim:=by
  unfold adK
  rw [eN,eD,hg,hq,hs]
 have h1:=Nat.gcd_pos_of_pos_right (adN p q r s).natAbs (show 0 < g.natAbs by omega)
 have h2:=Nat.gcd_le_right (adN p q r s).natAbs (show 0 < g.natAbs by omega)
 have no:¬ adK p q r s→adP p q r s=0∧adQ p q r s=1∧adC p q r s=4:=fun h=>⟨if_neg h,if_neg h,if_neg h⟩
 generalize p*sp=x at *
 generalize r*qp=y at *
 generalize qp*s=z at *
 rcases outVC x with ⟨a1,a2,a3⟩ | ⟨a1,a2,a3⟩
 ·rcases outVC y with ⟨b1,b2,b3⟩ | ⟨b1,b2,b3⟩
  ·rw [a2,b2,a3,b3]
   rcases outVC (x+y) with ⟨c1,c2,c3⟩ | ⟨c1,c2,c3⟩
   ·rcases outVC z with ⟨d1,d2,d3⟩ | ⟨d1,d2,d3⟩
    ·rw [c2,c3,d2,d3]
     refine ⟨fun _=>⟨eN.symm,eD.symm,eK.2 ⟨a1,b1,c1,d1⟩,trivial,by rw [Int.natAbs_natCast]; omega,by omega,trivial,?_⟩,fun h=>absurd rfl h⟩
     refine Nat.lt_of_le_of_lt (Int.natAbs_ediv_le_natAbs _ _) ?_
     rw [eD]
     exact d1
    rw [c3,d3]
    exact ⟨fun h=>by simp [feV] at h,fun _=>⟨(no (fun k=>d1 (eK.1 k).2.2.2)).1,(no (fun k=>d1 (eK.1 k).2.2.2)).2.1,(no (fun k=>d1 (eK.1 k).2.2.2)).2.2,by simp [feV]⟩⟩
   rw [c3]
   exact ⟨fun h=>by simp [feV] at h,fun _=>⟨(no (fun k=>c1 (eK.1 k).2.2.1)).1,(no (fun k=>c1 (eK.1 k).2.2.1)).2.1,(no (fun k=>c1 (eK.1 k).2.2.1)).2.2,by simp [feV]⟩⟩
  rw [a3,b3]
  exact ⟨fun h=>by simp [feV] at h,fun _=>⟨(no (fun k=>b1 (eK.1 k).2.1)).1,(no (fun k=>b1 (eK.1 k).2.1)).2.1,(no (fun k=>b1 (eK.1 k).2.1)).2.2,by simp [feV]⟩⟩
 ·rw [a3]
  exact ⟨fun h=>by simp [feV] at h,fun _=>⟨(no (fun k=>a1 (eK.1 k).1)).1,(no (fun k=>a1 (eK.1 k).1)).2.1,(no (fun k=>a1 (eK.1 k).1)).2.2,by simp [feV]⟩⟩
theorem ad_ok {p q r s N D g H:Int} (hk:adK p q r s) (_:True) (hN:adN p q r s=N) (hD:adD q s=D) (hg:adG q s=g) (hH:((Nat.gcd N.natAbs g.natAbs:Nat):Int)=H):adP p q r s=N / H∧adQ p q r s=D / H∧adC p q r s=0:=by
 have e:adH p q r s=H:=by unfold adH; rw [hN,hg,hH]
 exact ⟨by unfold adP; rw [if_pos hk,hN,e],by unfold adQ; rw [if_pos hk,hD,e],if_pos hk⟩
theorem fadd_any (p q r s:Int) (sa sb sd se:Bool) (Aa Ab Ad Ae:Option Addr) (na ca nb cb nd cd ne ce:Nat) (w:World) (hx:PF w sa Aa na ca sb Ab nb cb p q) (hy:PF w sd Ad nd cd se Ae ne ce r s) (hq:0 < q) (hs:0 < s) (hlp:p.natAbs < lim) (hlq:q.natAbs < lim) (hlr:r.natAbs < lim) (hls:s.natAbs < lim) :
  Calls Tryz.prog 67 #[.agg #[.bool sa,.slice Aa na ca,.bool sb,.slice Ab nb cb],.agg #[.bool sd,.slice Ad nd cd,.bool se,.slice Ae ne ce]] w (RetFE (adP p q r s) (adQ p q r s) (adC p q r s) w):=by
 have aZ:=hJ (And.intro hq (And.intro hs (And.intro hlp (And.intro hlq (And.intro hlr hls)))))
 obtain ⟨W,hW⟩:∃ W,((w.alloc (.cells #[.bool sa,.slice Aa na ca,.bool sb,.slice Ab nb cb] 35)).alloc (.cells #[.bool sd,.slice Ad nd cd,.bool se,.slice Ae ne ce] 35)).alloc (.cells #[.bool false,.slice none 0 0,.bool false,.slice none 0 0] 35)=W:=⟨_,rfl⟩
 have HK:=hJ (show Below w.heap.size w W by rw [←hW]; exact W444_k _ _ _ _ _ _ _ _ _ _ _ _ _ _)
 have cI:=hJ (show P4 35 W w.heap.size (.bool sa) (.slice Aa na ca) (.bool sb) (.slice Ab nb cb) by rw [←hW]; exact W444_a _ _ _ _ _ _ _ _ _ _ _ _ _ _)
 have cJ:=hJ (show P4 35 W (w.heap.size+1) (.bool sd) (.slice Ad nd cd) (.bool se) (.slice Ae ne ce) by rw [←hW]; exact W444_b _ _ _ _ _ _ _ _ _ _ _ _ _ _)
 have fN:=hJ (show P4 35 W (w.heap.size+1+1) (.bool false) (.slice none 0 0) (.bool false) (.slice none 0 0) by rw [←hW]; exact W444_z _ _ _ _ _ _ _ _ _ _ _ _ _ _)
 have fO:=hJ (hx.new HK.out)
 have fP:=hJ (hy.new HK.out)
 have hT:=hJ (show PF W false none 0 0 false none 0 0 0 1 from ⟨PI.zero W,PI.zero W⟩)
 have hna:na≤512:=plim hx.1 hlp
 have hnb:nb≤512:=plim hx.2 (dn_lim hlq)
 have hnd:nd≤512:=plim hy.1 hlr
 have hne:ne≤512:=plim hy.2 (dn_lim hls)
 obtain ⟨h,hh⟩:∃ h,w.heap.size=h:=⟨_,rfl⟩
 have HH:=hJ hh
 rw [hh] at cI cJ fN
 clear hx hy hq hs hlp hlq hlr hls
 go_enter Tryz.func67,Tryz.ntmps67
 have aD:Hid (∀ w',Below W.heap.size W w'→(fun w':World=>w'.cell? ⟨h,0,none⟩=some (.bool sa)∧w'.cell? ⟨h,1,none⟩=some (.slice Aa na ca)∧w'.cell? ⟨h,2,none⟩=some (.bool sb)∧w'.cell? ⟨h,3,none⟩=some (.slice Ab nb cb)∧w'.cell? ⟨(h+1),0,none⟩=some (.bool sd)∧w'.cell? ⟨(h+1),1,none⟩=some (.slice Ad nd cd)∧w'.cell? ⟨(h+1),2,none⟩=some (.bool se)∧w'.cell? ⟨(h+1),3,none⟩=some (.slice Ae ne ce)∧Below W.heap.size W w') w'):=hJ (fun w' hb=>⟨(cI.out.new hb).cells.1,(cI.out.new hb).cells.2.1,(cI.out.new hb).cells.2.2.1,(cI.out.new hb).cells.2.2.2,(cJ.out.new hb).cells.1,(cJ.out.new hb).cells.2.1,(cJ.out.new hb).cells.2.2.1,(cJ.out.new hb).cells.2.2.2,hb⟩)
 have hU:=hJ (Below.refl W.heap.size W)
 go_upto_region 1 with fail
 clear hW hh
 go_cut [6,7] (fun tp tq wx=>∃ (G H:Nat) (s2a:Bool) (A2a:Option Addr) (n2a c2a:Nat) (s2b:Bool) (A2b:Option Addr) (n2b c2b:Nat),tp=.pointer (some ⟨G,0,none⟩)∧tq=.pointer (some ⟨H,0,none⟩)∧P2 33 wx G (.bool s2a) (.slice A2a n2a c2a)∧P2 33 wx H (.bool s2b) (.slice A2b n2b c2b)∧PI wx s2a A2a n2a c2a (q)∧PI wx s2b A2b n2b c2b (s)∧Below W.heap.size W wx)
 case first =>
  have cK:=hU
  obtain ⟨v0,hv0⟩:=nmz (World.drew W)
  have aG:=hJ (show Below W.heap.size W v0 by rw [←hv0]; exact (Below.refl _ _).drew)
  have a_0:=hJ ((fO.out).new aG.out)
  have b_0:=hJ ((fP.out).new aG.out)
  refine wp_region_held_drew (S:=(fun w':World=>w'.cell? ⟨h,0,none⟩=some (.bool sa)∧w'.cell? ⟨h,1,none⟩=some (.slice Aa na ca)∧w'.cell? ⟨h,2,none⟩=some (.bool sb)∧w'.cell? ⟨h,3,none⟩=some (.slice Ab nb cb)∧w'.cell? ⟨(h+1),0,none⟩=some (.bool sd)∧w'.cell? ⟨(h+1),1,none⟩=some (.slice Ad nd cd)∧w'.cell? ⟨(h+1),2,none⟩=some (.bool se)∧w'.cell? ⟨(h+1),3,none⟩=some (.slice Ae ne ce)∧Below W.heap.size W w')) (by kernel_rfl) ?_ (fun hHeld=>?_)
  ·rw [hv0]
   exact aD.out _ aG.out
  rw [hv0] at hHeld ⊢
  clear hv0 cK
  refine tq 0 ?_
  refine tq 2 ?_
  try simp only [PT]
  refine wpAnyH_name (fun F hF a0 ha0 L0 hL0=>?_)
  have cY:∀ (s2a:Bool) (A2a:Option Addr) (n2a:Nat) (c2a:Nat) (s2b:Bool) (A2b:Option Addr) (n2b:Nat) (c2b:Nat) (gx:Nat) (gy:Nat) (v:World),Hid (Below W.heap.size W v)→Hid (PF v sa Aa na ca sb Ab nb cb p q)→Hid (PF v sd Ad nd cd se Ae ne ce r s)→Hid (PI v s2a A2a n2a c2a (q))→Hid (PI v s2b A2b n2b c2b (s))→Hid (P2 33 v gx (.bool false) (.slice none 0 0))→Hid (W.heap.size≤gx)→Hid (P2 33 v gy (.bool false) (.slice none 0 0))→Hid (W.heap.size≤gy)→Hid (gx≠gy)→F 2 (Array.setIfInBounds (Array.setIfInBounds (Array.setIfInBounds (Array.setIfInBounds L0 1 true) 3 true) 4 true) 5 true) (Act.put (Act.put (Act.put (Act.put a0 (some 22) (.agg #[.bool s2a,.slice A2a n2a c2a])) (some 24) (.agg #[.bool s2b,.slice A2b n2b c2b])) (some 6) (.pointer (some ⟨gx,0,none⟩))) (some 7) (.pointer (some ⟨gy,0,none⟩))) v:=by
   intro s2a A2a n2a c2a s2b A2b n2b c2b gx gy v aA a_j b_j N0_j N1_j aB aI aC aJ bP
   subst hF ha0 hL0
   simp only [PT] at  ⊢
   have hHeld:=aD.out _ aA.out
   refine ryy [6] ?_
   refine .cons rfl (fun K hK=>?_) .nil
   obtain ⟨z0,z1⟩:=aB.out.cells
   have y0:=aB.out.frozen 0
   have y1:=aB.out.frozen 1
   have z9:=aB.out.lt
   go_simp
   obtain ⟨v1,hV⟩:=nmz (World.setCell (World.setCell v ⟨gx,0,none⟩ (.bool s2a)) ⟨gx,1,none⟩ (.slice A2a n2a c2a))
   rw [hV]
   have bW:=hJ (show Below W.heap.size W v1 by rw [←hV]; exact below_box aA.out (aI.out) _ _)
   have a_1:=hJ (show PF v1 sa Aa na ca sb Ab nb cb p q by rw [←hV]; exact PF.box (a_j.out) (aB.out) (.bool s2a) (.slice A2a n2a c2a))
   have b_1:=hJ (show PF v1 sd Ad nd cd se Ae ne ce r s by rw [←hV]; exact PF.box (b_j.out) (aB.out) (.bool s2a) (.slice A2a n2a c2a))
   have N0_1:=hJ (show PI v1 s2a A2a n2a c2a (q) by rw [←hV]; exact PIo.box (N0_j.out) (aB.out) rfl rfl (.bool s2a) (.slice A2a n2a c2a))
   have N1_1:=hJ (show PI v1 s2b A2b n2b c2b (s) by rw [←hV]; exact PIo.box (N1_j.out) (aB.out) rfl rfl (.bool s2a) (.slice A2a n2a c2a))
   have aO:=hJ (show P2 33 v1 gy (.bool false) (.slice none 0 0) by rw [←hV]; exact aC.out.far2 (show gy≠gx from bP.out.symm) (.bool s2a) (.slice A2a n2a c2a))
   have dD:=hJ (show P2 33 v1 gx (.bool s2a) (.slice A2a n2a c2a) by rw [←hV]; exact aB.out.all (.bool s2a) (.slice A2a n2a c2a))
   clear hHeld
   refine hK.out _ _ (aD.out _ bW.out) (fun hHeld=>?_)
   clear hK K hV z9 z0 z1 y0 y1 aA a_j b_j N0_j N1_j aC aB
   try simp only [PT]
   refine ryy [7] ?_
   refine .cons rfl (fun K hK=>?_) .nil
   obtain ⟨z0,z1⟩:=aO.out.cells
   have y0:=aO.out.frozen 0
   have y1:=aO.out.frozen 1
   have z9:=aO.out.lt
   go_simp
   obtain ⟨v2,hV⟩:=nmz (World.setCell (World.setCell v1 ⟨gy,0,none⟩ (.bool s2b)) ⟨gy,1,none⟩ (.slice A2b n2b c2b))
   rw [hV]
   have cB:=hJ (show Below W.heap.size W v2 by rw [←hV]; exact below_box bW.out (aJ.out) _ _)
   have a_2:=hJ (show PF v2 sa Aa na ca sb Ab nb cb p q by rw [←hV]; exact PF.box (a_1.out) (aO.out) (.bool s2b) (.slice A2b n2b c2b))
   have b_2:=hJ (show PF v2 sd Ad nd cd se Ae ne ce r s by rw [←hV]; exact PF.box (b_1.out) (aO.out) (.bool s2b) (.slice A2b n2b c2b))
   have N0_2:=hJ (show PI v2 s2a A2a n2a c2a (q) by rw [←hV]; exact PIo.box (N0_1.out) (aO.out) rfl rfl (.bool s2b) (.slice A2b n2b c2b))
   have N1_2:=hJ (show PI v2 s2b A2b n2b c2b (s) by rw [←hV]; exact PIo.box (N1_1.out) (aO.out) rfl rfl (.bool s2b) (.slice A2b n2b c2b))
   have fQ:=hJ (show P2 33 v2 gx (.bool s2a) (.slice A2a n2a c2a) by rw [←hV]; exact dD.out.far2 (show gx≠gy from bP.out) (.bool s2b) (.slice A2b n2b c2b))
   have fR:=hJ (show P2 33 v2 gy (.bool s2b) (.slice A2b n2b c2b) by rw [←hV]; exact aO.out.all (.bool s2b) (.slice A2b n2b c2b))
   clear hHeld
   refine hK.out _ _ (aD.out _ cB.out) (fun hHeld=>?_)
   clear hK K hV z9 z0 z1 y0 y1 bW a_1 b_1 N0_1 N1_1 dD aO
   try simp only [PT]
   refine wpAnyH_done (by kernel_rfl) ?_ _
   clear hHeld
   go_wp2_with fail
   go_meet
   exact ⟨gx,gy,s2a,A2a,n2a,c2a,s2b,A2b,n2b,c2b,rfl,rfl,fQ.out,fR.out,N0_2.out,N1_2.out,cB.out⟩
  have eA:∀ (s2a:Bool) (A2a:Option Addr) (n2a:Nat) (c2a:Nat) (s2b:Bool) (A2b:Option Addr) (n2b:Nat) (c2b:Nat) (gx:Nat) (v:World),Hid (Below W.heap.size W v)→Hid (PF v sa Aa na ca sb Ab nb cb p q)→Hid (PF v sd Ad nd cd se Ae ne ce r s)→Hid (PI v s2a A2a n2a c2a (q))→Hid (PI v s2b A2b n2b c2b (s))→Hid (P2 33 v gx (.bool false) (.slice none 0 0))→Hid (W.heap.size≤gx)→F 3 (Array.setIfInBounds (Array.setIfInBounds (Array.setIfInBounds L0 1 true) 3 true) 4 true) (Act.put (Act.put (Act.put a0 (some 22) (.agg #[.bool s2a,.slice A2a n2a c2a])) (some 24) (.agg #[.bool s2b,.slice A2b n2b c2b])) (some 6) (.pointer (some ⟨gx,0,none⟩))) v:=by
   intro s2a A2a n2a c2a s2b A2b n2b c2b gx v aA a_j b_j N0_j N1_j aB aI
   subst hF ha0 hL0
   simp only [PT] at cY ⊢
   have hHeld:=aD.out _ aA.out
   refine ryy [5] ?_
   refine .cons rfl (fun K hK=>?_) .nil
   go_simp
   have aH:=hJ ((Below.refl v.heap.size v).alloc (Nat.le_refl _) (.cells #[.bool false,.slice none 0 0] 33))
   have cL:=hJ (P2.lit v 33 (.bool false) (.slice none 0 0))
   obtain ⟨v3,hV⟩:=nmz (World.alloc v (.cells #[.bool false,.slice none 0 0] 33))
   obtain ⟨gy,hg⟩:=nmz (v.heap.size)
   rw [hV] at aH cL  ⊢
   rw [hg] at cL  ⊢
   have aM:=hJ (show W.heap.size≤gy by rw [←hg]; exact aA.out.size)
   have bX:=hJ (show gx≠gy by have:=aB.out.lt; rw [hg] at this; omega)
   have cC:=hJ (bt aA.out aH.out)
   have a_3:=hJ ((a_j.out).new aH.out)
   have b_3:=hJ ((b_j.out).new aH.out)
   have N0_3:=hJ (PIo.new N0_j.out aH.out)
   have N1_3:=hJ (PIo.new N1_j.out aH.out)
   have fS:=hJ (aB.out.new aH.out)
   clear hHeld
   refine hK.out _ _ (aD.out _ cC.out) (fun hHeld=>?_)
   clear hK K hV hg aH aA a_j b_j N0_j N1_j aB
   try simp only [PT]
   exact wpAnyH_cast (by kernel_rfl) (cY s2a A2a n2a c2a s2b A2b n2b c2b gx gy v3 cC a_3 b_3 N0_3 N1_3 fS (hJ (aI.out)) cL (hJ (aM.out)) (hJ (bX.out)))
  have eB:∀ (s2a:Bool) (A2a:Option Addr) (n2a:Nat) (c2a:Nat) (s2b:Bool) (A2b:Option Addr) (n2b:Nat) (c2b:Nat) (gy:Nat) (v:World),Hid (Below W.heap.size W v)→Hid (PF v sa Aa na ca sb Ab nb cb p q)→Hid (PF v sd Ad nd cd se Ae ne ce r s)→Hid (PI v s2a A2a n2a c2a (q))→Hid (PI v s2b A2b n2b c2b (s))→Hid (P2 33 v gy (.bool false) (.slice none 0 0))→Hid (W.heap.size≤gy)→F 3 (Array.setIfInBounds (Array.setIfInBounds (Array.setIfInBounds L0 1 true) 3 true) 5 true) (Act.put (Act.put (Act.put a0 (some 22) (.agg #[.bool s2a,.slice A2a n2a c2a])) (some 24) (.agg #[.bool s2b,.slice A2b n2b c2b])) (some 7) (.pointer (some ⟨gy,0,none⟩))) v:=by
   intro s2a A2a n2a c2a s2b A2b n2b c2b gy v aA a_j b_j N0_j N1_j aC aJ
   subst hF ha0 hL0
   simp only [PT] at cY ⊢
   have hHeld:=aD.out _ aA.out
   refine ryy [4] ?_
   refine .cons rfl (fun K hK=>?_) .nil
   go_simp
   have aV:=hJ ((Below.refl v.heap.size v).alloc (Nat.le_refl _) (.cells #[.bool false,.slice none 0 0] 33))
   have cM:=hJ (P2.lit v 33 (.bool false) (.slice none 0 0))
   obtain ⟨v4,hV⟩:=nmz (World.alloc v (.cells #[.bool false,.slice none 0 0] 33))
   obtain ⟨gx,hg⟩:=nmz (v.heap.size)
   rw [hV] at aV cM  ⊢
   rw [hg] at cM  ⊢
   have aN:=hJ (show W.heap.size≤gx by rw [←hg]; exact aA.out.size)
   have bY:=hJ (show gy≠gx by have:=aC.out.lt; rw [hg] at this; omega)
   have cF:=hJ (bt aA.out aV.out)
   have a_4:=hJ ((a_j.out).new aV.out)
   have b_4:=hJ ((b_j.out).new aV.out)
   have N0_4:=hJ (PIo.new N0_j.out aV.out)
   have N1_4:=hJ (PIo.new N1_j.out aV.out)
   have fT:=hJ (aC.out.new aV.out)
   clear hHeld
   refine hK.out _ _ (aD.out _ cF.out) (fun hHeld=>?_)
   clear hK K hV hg aV aA a_j b_j N0_j N1_j aC
   try simp only [PT]
   exact wpAnyH_cast (by kernel_rfl) (cY s2a A2a n2a c2a s2b A2b n2b c2b gx gy v4 cF a_4 b_4 N0_4 N1_4 cM (hJ (aN.out)) fT (hJ (aJ.out)) (hJ (bY.out.symm)))
  have cZ:∀ (s2a:Bool) (A2a:Option Addr) (n2a:Nat) (c2a:Nat) (gx:Nat) (gy:Nat) (v:World),Hid (Below W.heap.size W v)→Hid (PF v sa Aa na ca sb Ab nb cb p q)→Hid (PF v sd Ad nd cd se Ae ne ce r s)→Hid (PI v s2a A2a n2a c2a (q))→Hid (P2 33 v gx (.bool false) (.slice none 0 0))→Hid (W.heap.size≤gx)→Hid (P2 33 v gy (.bool false) (.slice none 0 0))→Hid (W.heap.size≤gy)→Hid (gx≠gy)→F 3 (Array.setIfInBounds (Array.setIfInBounds (Array.setIfInBounds L0 1 true) 4 true) 5 true) (Act.put (Act.put (Act.put a0 (some 22) (.agg #[.bool s2a,.slice A2a n2a c2a])) (some 6) (.pointer (some ⟨gx,0,none⟩))) (some 7) (.pointer (some ⟨gy,0,none⟩))) v:=by
   intro s2a A2a n2a c2a gx gy v aA a_j b_j N0_j aB aI aC aJ bP
   subst hF ha0 hL0
   simp only [PT] at cY ⊢
   have hHeld:=aD.out _ aA.out
   refine ryy [3] ?_
   refine .cons rfl (fun K hK=>?_) .nil
   go_simp
   go_at_call_of 90 (#[Value.agg #[.bool sd,.slice Ad nd cd,.bool se,.slice Ae ne ce]])
   refine (den_any r s sd se Ad Ae nd cd ne ce v (b_j.out) (by omega) aZ.out.2.1).mono ?_
   rintro e v5 ⟨s2b,A2b,n2b,c2b,rfl,hr,hk⟩
   have N1_5:=hJ (hr)
   have bA:=hJ hk
   go_wp2_with fail
   have dE:=hJ (bt aA.out bA.out)
   have a_5:=hJ ((a_j.out).new bA.out)
   have b_5:=hJ ((b_j.out).new bA.out)
   have N0_5:=hJ (PIo.new N0_j.out bA.out)
   have fU:=hJ (aB.out.new bA.out)
   have fV:=hJ (aC.out.new bA.out)
   clear hHeld
   refine hK.out _ _ (aD.out _ dE.out) (fun hHeld=>?_)
   clear hK K hk bA hr aA a_j b_j N0_j aB aC
   try simp only [PT]
   exact wpAnyH_cast (by kernel_rfl) (cY s2a A2a n2a c2a s2b A2b n2b c2b gx gy v5 dE a_5 b_5 N0_5 N1_5 fU (hJ (aI.out)) fV (hJ (aJ.out)) (hJ (bP.out)))
  have hX:∀ (s2a:Bool) (A2a:Option Addr) (n2a:Nat) (c2a:Nat) (s2b:Bool) (A2b:Option Addr) (n2b:Nat) (c2b:Nat) (v:World),Hid (Below W.heap.size W v)→Hid (PF v sa Aa na ca sb Ab nb cb p q)→Hid (PF v sd Ad nd cd se Ae ne ce r s)→Hid (PI v s2a A2a n2a c2a (q))→Hid (PI v s2b A2b n2b c2b (s))→F 4 (Array.setIfInBounds (Array.setIfInBounds L0 1 true) 3 true) (Act.put (Act.put a0 (some 22) (.agg #[.bool s2a,.slice A2a n2a c2a])) (some 24) (.agg #[.bool s2b,.slice A2b n2b c2b])) v:=by
   intro s2a A2a n2a c2a s2b A2b n2b c2b v aA a_j b_j N0_j N1_j
   subst hF ha0 hL0
   simp only [PT] at eA eB ⊢
   have hHeld:=aD.out _ aA.out
   refine ryy [4,5] ?_
   refine .cons rfl (fun K hK=>?_) ?_
   go_simp
   have bB:=hJ ((Below.refl v.heap.size v).alloc (Nat.le_refl _) (.cells #[.bool false,.slice none 0 0] 33))
   have cN:=hJ (P2.lit v 33 (.bool false) (.slice none 0 0))
   obtain ⟨v6,hV⟩:=nmz (World.alloc v (.cells #[.bool false,.slice none 0 0] 33))
   obtain ⟨gx,hg⟩:=nmz (v.heap.size)
   rw [hV] at bB cN  ⊢
   rw [hg] at cN  ⊢
   have aN:=hJ (show W.heap.size≤gx by rw [←hg]; exact aA.out.size)
   have dF:=hJ (bt aA.out bB.out)
   have a_6:=hJ ((a_j.out).new bB.out)
   have b_6:=hJ ((b_j.out).new bB.out)
   have N0_6:=hJ (PIo.new N0_j.out bB.out)
   have N1_6:=hJ (PIo.new N1_j.out bB.out)
   clear hHeld
   refine hK.out _ _ (aD.out _ dF.out) (fun hHeld=>?_)
   clear hK K hV hg bB aA a_j b_j N0_j N1_j
   try simp only [PT]
   exact wpAnyH_cast (by kernel_rfl) (eA s2a A2a n2a c2a s2b A2b n2b c2b gx v6 dF a_6 b_6 N0_6 N1_6 cN (hJ (aN.out)))
   refine .cons rfl (fun K hK=>?_) .nil
   go_simp
   have bC:=hJ ((Below.refl v.heap.size v).alloc (Nat.le_refl _) (.cells #[.bool false,.slice none 0 0] 33))
   have cO:=hJ (P2.lit v 33 (.bool false) (.slice none 0 0))
   obtain ⟨v7,hV⟩:=nmz (World.alloc v (.cells #[.bool false,.slice none 0 0] 33))
   obtain ⟨gy,hg⟩:=nmz (v.heap.size)
   rw [hV] at bC cO  ⊢
   rw [hg] at cO  ⊢
   have aM:=hJ (show W.heap.size≤gy by rw [←hg]; exact aA.out.size)
   have dG:=hJ (bt aA.out bC.out)
   have a_7:=hJ ((a_j.out).new bC.out)
   have b_7:=hJ ((b_j.out).new bC.out)
   have N0_7:=hJ (PIo.new N0_j.out bC.out)
   have N1_7:=hJ (PIo.new N1_j.out bC.out)
   clear hHeld
   refine hK.out _ _ (aD.out _ dG.out) (fun hHeld=>?_)
   clear hK K hV hg bC aA a_j b_j N0_j N1_j
   try simp only [PT]
   exact wpAnyH_cast (by kernel_rfl) (eB s2a A2a n2a c2a s2b A2b n2b c2b gy v7 dG a_7 b_7 N0_7 N1_7 cO (hJ (aM.out)))
  have eC:∀ (s2a:Bool) (A2a:Option Addr) (n2a:Nat) (c2a:Nat) (gx:Nat) (v:World),Hid (Below W.heap.size W v)→Hid (PF v sa Aa na ca sb Ab nb cb p q)→Hid (PF v sd Ad nd cd se Ae ne ce r s)→Hid (PI v s2a A2a n2a c2a (q))→Hid (P2 33 v gx (.bool false) (.slice none 0 0))→Hid (W.heap.size≤gx)→F 4 (Array.setIfInBounds (Array.setIfInBounds L0 1 true) 4 true) (Act.put (Act.put a0 (some 22) (.agg #[.bool s2a,.slice A2a n2a c2a])) (some 6) (.pointer (some ⟨gx,0,none⟩))) v:=by
   intro s2a A2a n2a c2a gx v aA a_j b_j N0_j aB aI
   subst hF ha0 hL0
   simp only [PT] at eA cZ ⊢
   have hHeld:=aD.out _ aA.out
   refine ryy [3,5] ?_
   refine .cons rfl (fun K hK=>?_) ?_
   go_simp
   go_at_call_of 90 (#[Value.agg #[.bool sd,.slice Ad nd cd,.bool se,.slice Ae ne ce]])
   refine (den_any r s sd se Ad Ae nd cd ne ce v (b_j.out) (by omega) aZ.out.2.1).mono ?_
   rintro e v8 ⟨s2b,A2b,n2b,c2b,rfl,hr,hk⟩
   have N1_8:=hJ (hr)
   have bF:=hJ hk
   go_wp2_with fail
   have dH:=hJ (bt aA.out bF.out)
   have a_8:=hJ ((a_j.out).new bF.out)
   have b_8:=hJ ((b_j.out).new bF.out)
   have N0_8:=hJ (PIo.new N0_j.out bF.out)
   have fW:=hJ (aB.out.new bF.out)
   clear hHeld
   refine hK.out _ _ (aD.out _ dH.out) (fun hHeld=>?_)
   clear hK K hk bF hr aA a_j b_j N0_j aB
   try simp only [PT]
   exact wpAnyH_cast (by kernel_rfl) (eA s2a A2a n2a c2a s2b A2b n2b c2b gx v8 dH a_8 b_8 N0_8 N1_8 fW (hJ (aI.out)))
   refine .cons rfl (fun K hK=>?_) .nil
   go_simp
   have bD:=hJ ((Below.refl v.heap.size v).alloc (Nat.le_refl _) (.cells #[.bool false,.slice none 0 0] 33))
   have cP:=hJ (P2.lit v 33 (.bool false) (.slice none 0 0))
   obtain ⟨v9,hV⟩:=nmz (World.alloc v (.cells #[.bool false,.slice none 0 0] 33))
   obtain ⟨gy,hg⟩:=nmz (v.heap.size)
   rw [hV] at bD cP  ⊢
   rw [hg] at cP  ⊢
   have aM:=hJ (show W.heap.size≤gy by rw [←hg]; exact aA.out.size)
   have bX:=hJ (show gx≠gy by have:=aB.out.lt; rw [hg] at this; omega)
   have dI:=hJ (bt aA.out bD.out)
   have a_9:=hJ ((a_j.out).new bD.out)
   have b_9:=hJ ((b_j.out).new bD.out)
   have N0_9:=hJ (PIo.new N0_j.out bD.out)
   have fX:=hJ (aB.out.new bD.out)
   clear hHeld
   refine hK.out _ _ (aD.out _ dI.out) (fun hHeld=>?_)
   clear hK K hV hg bD aA a_j b_j N0_j aB
   try simp only [PT]
   exact wpAnyH_cast (by kernel_rfl) (cZ s2a A2a n2a c2a gx gy v9 dI a_9 b_9 N0_9 fX (hJ (aI.out)) cP (hJ (aM.out)) (hJ (bX.out)))
  have eD:∀ (s2a:Bool) (A2a:Option Addr) (n2a:Nat) (c2a:Nat) (gy:Nat) (v:World),Hid (Below W.heap.size W v)→Hid (PF v sa Aa na ca sb Ab nb cb p q)→Hid (PF v sd Ad nd cd se Ae ne ce r s)→Hid (PI v s2a A2a n2a c2a (q))→Hid (P2 33 v gy (.bool false) (.slice none 0 0))→Hid (W.heap.size≤gy)→F 4 (Array.setIfInBounds (Array.setIfInBounds L0 1 true) 5 true) (Act.put (Act.put a0 (some 22) (.agg #[.bool s2a,.slice A2a n2a c2a])) (some 7) (.pointer (some ⟨gy,0,none⟩))) v:=by
   intro s2a A2a n2a c2a gy v aA a_j b_j N0_j aC aJ
   subst hF ha0 hL0
   simp only [PT] at eB cZ ⊢
   have hHeld:=aD.out _ aA.out
   refine ryy [3,4] ?_
   refine .cons rfl (fun K hK=>?_) ?_
   go_simp
   go_at_call_of 90 (#[Value.agg #[.bool sd,.slice Ad nd cd,.bool se,.slice Ae ne ce]])
   refine (den_any r s sd se Ad Ae nd cd ne ce v (b_j.out) (by omega) aZ.out.2.1).mono ?_
   rintro e v10 ⟨s2b,A2b,n2b,c2b,rfl,hr,hk⟩
   have N1_10:=hJ (hr)
   have bG:=hJ hk
   go_wp2_with fail
   have dJ:=hJ (bt aA.out bG.out)
   have a_10:=hJ ((a_j.out).new bG.out)
   have b_10:=hJ ((b_j.out).new bG.out)
   have N0_10:=hJ (PIo.new N0_j.out bG.out)
   have fY:=hJ (aC.out.new bG.out)
   clear hHeld
   refine hK.out _ _ (aD.out _ dJ.out) (fun hHeld=>?_)
   clear hK K hk bG hr aA a_j b_j N0_j aC
   try simp only [PT]
   exact wpAnyH_cast (by kernel_rfl) (eB s2a A2a n2a c2a s2b A2b n2b c2b gy v10 dJ a_10 b_10 N0_10 N1_10 fY (hJ (aJ.out)))
   refine .cons rfl (fun K hK=>?_) .nil
   go_simp
   have bE:=hJ ((Below.refl v.heap.size v).alloc (Nat.le_refl _) (.cells #[.bool false,.slice none 0 0] 33))
   have cQ:=hJ (P2.lit v 33 (.bool false) (.slice none 0 0))
   obtain ⟨v11,hV⟩:=nmz (World.alloc v (.cells #[.bool false,.slice none 0 0] 33))
   obtain ⟨gx,hg⟩:=nmz (v.heap.size)
   rw [hV] at bE cQ  ⊢
   rw [hg] at cQ  ⊢
   have aN:=hJ (show W.heap.size≤gx by rw [←hg]; exact aA.out.size)
   have bY:=hJ (show gy≠gx by have:=aC.out.lt; rw [hg] at this; omega)
   have dK:=hJ (bt aA.out bE.out)
   have a_11:=hJ ((a_j.out).new bE.out)
   have b_11:=hJ ((b_j.out).new bE.out)
   have N0_11:=hJ (PIo.new N0_j.out bE.out)
   have fZ:=hJ (aC.out.new bE.out)
   clear hHeld
   refine hK.out _ _ (aD.out _ dK.out) (fun hHeld=>?_)
   clear hK K hV hg bE aA a_j b_j N0_j aC
   try simp only [PT]
   exact wpAnyH_cast (by kernel_rfl) (cZ s2a A2a n2a c2a gx gy v11 dK a_11 b_11 N0_11 cQ (hJ (aN.out)) fZ (hJ (aJ.out)) (hJ (bY.out.symm)))
  have eE:∀ (gx:Nat) (gy:Nat) (v:World),Hid (Below W.heap.size W v)→Hid (PF v sa Aa na ca sb Ab nb cb p q)→Hid (PF v sd Ad nd cd se Ae ne ce r s)→Hid (P2 33 v gx (.bool false) (.slice none 0 0))→Hid (W.heap.size≤gx)→Hid (P2 33 v gy (.bool false) (.slice none 0 0))→Hid (W.heap.size≤gy)→Hid (gx≠gy)→F 4 (Array.setIfInBounds (Array.setIfInBounds L0 4 true) 5 true) (Act.put (Act.put a0 (some 6) (.pointer (some ⟨gx,0,none⟩))) (some 7) (.pointer (some ⟨gy,0,none⟩))) v:=by
   intro gx gy v aA a_j b_j aB aI aC aJ bP
   subst hF ha0 hL0
   simp only [PT] at cZ ⊢
   have hHeld:=aD.out _ aA.out
   refine ryy [1] ?_
   refine .cons rfl (fun K hK=>?_) .nil
   go_simp
   go_at_call_of 90 (#[Value.agg #[.bool sa,.slice Aa na ca,.bool sb,.slice Ab nb cb]])
   refine (den_any p q sa sb Aa Ab na ca nb cb v (a_j.out) (by omega) aZ.out.1).mono ?_
   rintro e v12 ⟨s2a,A2a,n2a,c2a,rfl,hr,hk⟩
   have N0_12:=hJ (hr)
   have bH:=hJ hk
   go_wp2_with fail
   have dL:=hJ (bt aA.out bH.out)
   have a_12:=hJ ((a_j.out).new bH.out)
   have b_12:=hJ ((b_j.out).new bH.out)
   have gA:=hJ (aB.out.new bH.out)
   have gB:=hJ (aC.out.new bH.out)
   clear hHeld
   refine hK.out _ _ (aD.out _ dL.out) (fun hHeld=>?_)
   clear hK K hk bH hr aA a_j b_j aB aC
   try simp only [PT]
   exact wpAnyH_cast (by kernel_rfl) (cZ s2a A2a n2a c2a gx gy v12 dL a_12 b_12 N0_12 gA (hJ (aI.out)) gB (hJ (aJ.out)) (hJ (bP.out)))
  have J1:∀ (s2a:Bool) (A2a:Option Addr) (n2a:Nat) (c2a:Nat) (v:World),Hid (Below W.heap.size W v)→Hid (PF v sa Aa na ca sb Ab nb cb p q)→Hid (PF v sd Ad nd cd se Ae ne ce r s)→Hid (PI v s2a A2a n2a c2a (q))→F 5 (Array.setIfInBounds L0 1 true) (Act.put a0 (some 22) (.agg #[.bool s2a,.slice A2a n2a c2a])) v:=by
   intro s2a A2a n2a c2a v aA a_j b_j N0_j
   subst hF ha0 hL0
   simp only [PT] at hX eC eD ⊢
   have hHeld:=aD.out _ aA.out
   refine ryy [3,4,5] ?_
   refine .cons rfl (fun K hK=>?_) ?_
   go_simp
   go_at_call_of 90 (#[Value.agg #[.bool sd,.slice Ad nd cd,.bool se,.slice Ae ne ce]])
   refine (den_any r s sd se Ad Ae nd cd ne ce v (b_j.out) (by omega) aZ.out.2.1).mono ?_
   rintro e v13 ⟨s2b,A2b,n2b,c2b,rfl,hr,hk⟩
   have N1_13:=hJ (hr)
   have bQ:=hJ hk
   go_wp2_with fail
   have dM:=hJ (bt aA.out bQ.out)
   have a_13:=hJ ((a_j.out).new bQ.out)
   have b_13:=hJ ((b_j.out).new bQ.out)
   have N0_13:=hJ (PIo.new N0_j.out bQ.out)
   clear hHeld
   refine hK.out _ _ (aD.out _ dM.out) (fun hHeld=>?_)
   clear hK K hk bQ hr aA a_j b_j N0_j
   try simp only [PT]
   exact wpAnyH_cast (by kernel_rfl) (hX s2a A2a n2a c2a s2b A2b n2b c2b v13 dM a_13 b_13 N0_13 N1_13)
   refine .cons rfl (fun K hK=>?_) ?_
   go_simp
   have bJ:=hJ ((Below.refl v.heap.size v).alloc (Nat.le_refl _) (.cells #[.bool false,.slice none 0 0] 33))
   have cR:=hJ (P2.lit v 33 (.bool false) (.slice none 0 0))
   obtain ⟨v14,hV⟩:=nmz (World.alloc v (.cells #[.bool false,.slice none 0 0] 33))
   obtain ⟨gx,hg⟩:=nmz (v.heap.size)
   rw [hV] at bJ cR  ⊢
   rw [hg] at cR  ⊢
   have aN:=hJ (show W.heap.size≤gx by rw [←hg]; exact aA.out.size)
   have dN:=hJ (bt aA.out bJ.out)
   have a_14:=hJ ((a_j.out).new bJ.out)
   have b_14:=hJ ((b_j.out).new bJ.out)
   have N0_14:=hJ (PIo.new N0_j.out bJ.out)
   clear hHeld
   refine hK.out _ _ (aD.out _ dN.out) (fun hHeld=>?_)
   clear hK K hV hg bJ aA a_j b_j N0_j
   try simp only [PT]
   exact wpAnyH_cast (by kernel_rfl) (eC s2a A2a n2a c2a gx v14 dN a_14 b_14 N0_14 cR (hJ (aN.out)))
   refine .cons rfl (fun K hK=>?_) .nil
   go_simp
   have bK:=hJ ((Below.refl v.heap.size v).alloc (Nat.le_refl _) (.cells #[.bool false,.slice none 0 0] 33))
   have cS:=hJ (P2.lit v 33 (.bool false) (.slice none 0 0))
   obtain ⟨v15,hV⟩:=nmz (World.alloc v (.cells #[.bool false,.slice none 0 0] 33))
   obtain ⟨gy,hg⟩:=nmz (v.heap.size)
   rw [hV] at bK cS  ⊢
   rw [hg] at cS  ⊢
   have aM:=hJ (show W.heap.size≤gy by rw [←hg]; exact aA.out.size)
   have dO:=hJ (bt aA.out bK.out)
   have a_15:=hJ ((a_j.out).new bK.out)
   have b_15:=hJ ((b_j.out).new bK.out)
   have N0_15:=hJ (PIo.new N0_j.out bK.out)
   clear hHeld
   refine hK.out _ _ (aD.out _ dO.out) (fun hHeld=>?_)
   clear hK K hV hg bK aA a_j b_j N0_j
   try simp only [PT]
   exact wpAnyH_cast (by kernel_rfl) (eD s2a A2a n2a c2a gy v15 dO a_15 b_15 N0_15 cS (hJ (aM.out)))
  have J4:∀ (gx:Nat) (v:World),Hid (Below W.heap.size W v)→Hid (PF v sa Aa na ca sb Ab nb cb p q)→Hid (PF v sd Ad nd cd se Ae ne ce r s)→Hid (P2 33 v gx (.bool false) (.slice none 0 0))→Hid (W.heap.size≤gx)→F 5 (Array.setIfInBounds L0 4 true) (Act.put a0 (some 6) (.pointer (some ⟨gx,0,none⟩))) v:=by
   intro gx v aA a_j b_j aB aI
   subst hF ha0 hL0
   simp only [PT] at eC eE ⊢
   have hHeld:=aD.out _ aA.out
   refine ryy [1,5] ?_
   refine .cons rfl (fun K hK=>?_) ?_
   go_simp
   go_at_call_of 90 (#[Value.agg #[.bool sa,.slice Aa na ca,.bool sb,.slice Ab nb cb]])
   refine (den_any p q sa sb Aa Ab na ca nb cb v (a_j.out) (by omega) aZ.out.1).mono ?_
   rintro e v16 ⟨s2a,A2a,n2a,c2a,rfl,hr,hk⟩
   have N0_16:=hJ (hr)
   have bR:=hJ hk
   go_wp2_with fail
   have dP:=hJ (bt aA.out bR.out)
   have a_16:=hJ ((a_j.out).new bR.out)
   have b_16:=hJ ((b_j.out).new bR.out)
   have gC:=hJ (aB.out.new bR.out)
   clear hHeld
   refine hK.out _ _ (aD.out _ dP.out) (fun hHeld=>?_)
   clear hK K hk bR hr aA a_j b_j aB
   try simp only [PT]
   exact wpAnyH_cast (by kernel_rfl) (eC s2a A2a n2a c2a gx v16 dP a_16 b_16 N0_16 gC (hJ (aI.out)))
   refine .cons rfl (fun K hK=>?_) .nil
   go_simp
   have bL:=hJ ((Below.refl v.heap.size v).alloc (Nat.le_refl _) (.cells #[.bool false,.slice none 0 0] 33))
   have cT:=hJ (P2.lit v 33 (.bool false) (.slice none 0 0))
   obtain ⟨v17,hV⟩:=nmz (World.alloc v (.cells #[.bool false,.slice none 0 0] 33))
   obtain ⟨gy,hg⟩:=nmz (v.heap.size)
   rw [hV] at bL cT  ⊢
   rw [hg] at cT  ⊢
   have aM:=hJ (show W.heap.size≤gy by rw [←hg]; exact aA.out.size)
   have bX:=hJ (show gx≠gy by have:=aB.out.lt; rw [hg] at this; omega)
   have dQ:=hJ (bt aA.out bL.out)
   have a_17:=hJ ((a_j.out).new bL.out)
   have b_17:=hJ ((b_j.out).new bL.out)
   have gE:=hJ (aB.out.new bL.out)
   clear hHeld
   refine hK.out _ _ (aD.out _ dQ.out) (fun hHeld=>?_)
   clear hK K hV hg bL aA a_j b_j aB
   try simp only [PT]
   exact wpAnyH_cast (by kernel_rfl) (eE gx gy v17 dQ a_17 b_17 gE (hJ (aI.out)) cT (hJ (aM.out)) (hJ (bX.out)))
  have J5:∀ (gy:Nat) (v:World),Hid (Below W.heap.size W v)→Hid (PF v sa Aa na ca sb Ab nb cb p q)→Hid (PF v sd Ad nd cd se Ae ne ce r s)→Hid (P2 33 v gy (.bool false) (.slice none 0 0))→Hid (W.heap.size≤gy)→F 5 (Array.setIfInBounds L0 5 true) (Act.put a0 (some 7) (.pointer (some ⟨gy,0,none⟩))) v:=by
   intro gy v aA a_j b_j aC aJ
   subst hF ha0 hL0
   simp only [PT] at eD eE ⊢
   have hHeld:=aD.out _ aA.out
   refine ryy [1,4] ?_
   refine .cons rfl (fun K hK=>?_) ?_
   go_simp
   go_at_call_of 90 (#[Value.agg #[.bool sa,.slice Aa na ca,.bool sb,.slice Ab nb cb]])
   refine (den_any p q sa sb Aa Ab na ca nb cb v (a_j.out) (by omega) aZ.out.1).mono ?_
   rintro e v18 ⟨s2a,A2a,n2a,c2a,rfl,hr,hk⟩
   have N0_18:=hJ (hr)
   have bS:=hJ hk
   go_wp2_with fail
   have dR:=hJ (bt aA.out bS.out)
   have a_18:=hJ ((a_j.out).new bS.out)
   have b_18:=hJ ((b_j.out).new bS.out)
   have gF:=hJ (aC.out.new bS.out)
   clear hHeld
   refine hK.out _ _ (aD.out _ dR.out) (fun hHeld=>?_)
   clear hK K hk bS hr aA a_j b_j aC
   try simp only [PT]
   exact wpAnyH_cast (by kernel_rfl) (eD s2a A2a n2a c2a gy v18 dR a_18 b_18 N0_18 gF (hJ (aJ.out)))
   refine .cons rfl (fun K hK=>?_) .nil
   go_simp
   have bM:=hJ ((Below.refl v.heap.size v).alloc (Nat.le_refl _) (.cells #[.bool false,.slice none 0 0] 33))
   have cU:=hJ (P2.lit v 33 (.bool false) (.slice none 0 0))
   obtain ⟨v19,hV⟩:=nmz (World.alloc v (.cells #[.bool false,.slice none 0 0] 33))
   obtain ⟨gx,hg⟩:=nmz (v.heap.size)
   rw [hV] at bM cU  ⊢
   rw [hg] at cU  ⊢
   have aN:=hJ (show W.heap.size≤gx by rw [←hg]; exact aA.out.size)
   have bY:=hJ (show gy≠gx by have:=aC.out.lt; rw [hg] at this; omega)
   have dS:=hJ (bt aA.out bM.out)
   have a_19:=hJ ((a_j.out).new bM.out)
   have b_19:=hJ ((b_j.out).new bM.out)
   have gG:=hJ (aC.out.new bM.out)
   clear hHeld
   refine hK.out _ _ (aD.out _ dS.out) (fun hHeld=>?_)
   clear hK K hV hg bM aA a_j b_j aC
   try simp only [PT]
   exact wpAnyH_cast (by kernel_rfl) (eE gx gy v19 dS a_19 b_19 cU (hJ (aN.out)) gG (hJ (aJ.out)) (hJ (bY.out.symm)))
  subst hF ha0 hL0
  simp only [PT] at J1 J4 J5
  refine ryy [1,4,5] ?_
  refine .cons rfl (fun K hK=>?_) ?_
  go_simp
  go_at_call_of 90 (#[Value.agg #[.bool sa,.slice Aa na ca,.bool sb,.slice Ab nb cb]])
  refine (den_any p q sa sb Aa Ab na ca nb cb v0 (a_0.out) (by omega) aZ.out.1).mono ?_
  rintro e v20 ⟨s2a,A2a,n2a,c2a,rfl,hr,hk⟩
  have N0_20:=hJ (hr)
  have bZ:=hJ hk
  go_wp2_with fail
  have dT:=hJ (bt aG.out bZ.out)
  have a_20:=hJ ((a_0.out).new bZ.out)
  have b_20:=hJ ((b_0.out).new bZ.out)
  clear hHeld
  refine hK.out _ _ (aD.out _ dT.out) (fun hHeld=>?_)
  clear hK K hk bZ hr aG a_0 b_0
  try simp only [PT]
  exact wpAnyH_cast (by kernel_rfl) (J1 s2a A2a n2a c2a v20 dT a_20 b_20 N0_20)
  refine .cons rfl (fun K hK=>?_) ?_
  go_simp
  have bT:=hJ ((Below.refl v0.heap.size v0).alloc (Nat.le_refl _) (.cells #[.bool false,.slice none 0 0] 33))
  have cV:=hJ (P2.lit v0 33 (.bool false) (.slice none 0 0))
  obtain ⟨v21,hV⟩:=nmz (World.alloc v0 (.cells #[.bool false,.slice none 0 0] 33))
  obtain ⟨gx,hg⟩:=nmz (v0.heap.size)
  rw [hV] at bT cV  ⊢
  rw [hg] at cV  ⊢
  have aN:=hJ (show W.heap.size≤gx by rw [←hg]; exact aG.out.size)
  have dU:=hJ (bt aG.out bT.out)
  have a_21:=hJ ((a_0.out).new bT.out)
  have b_21:=hJ ((b_0.out).new bT.out)
  clear hHeld
  refine hK.out _ _ (aD.out _ dU.out) (fun hHeld=>?_)
  clear hK K hV hg bT aG a_0 b_0
  try simp only [PT]
  exact wpAnyH_cast (by kernel_rfl) (J4 gx v21 dU a_21 b_21 cV (hJ (aN.out)))
  refine .cons rfl (fun K hK=>?_) .nil
  go_simp
  have bU:=hJ ((Below.refl v0.heap.size v0).alloc (Nat.le_refl _) (.cells #[.bool false,.slice none 0 0] 33))
  have cW:=hJ (P2.lit v0 33 (.bool false) (.slice none 0 0))
  obtain ⟨v22,hV⟩:=nmz (World.alloc v0 (.cells #[.bool false,.slice none 0 0] 33))
  obtain ⟨gy,hg⟩:=nmz (v0.heap.size)
  rw [hV] at bU cW  ⊢
  rw [hg] at cW  ⊢
  have aM:=hJ (show W.heap.size≤gy by rw [←hg]; exact aG.out.size)
  have dW:=hJ (bt aG.out bU.out)
  have a_22:=hJ ((a_0.out).new bU.out)
  have b_22:=hJ ((b_0.out).new bU.out)
  clear hHeld
  refine hK.out _ _ (aD.out _ dW.out) (fun hHeld=>?_)
  clear hK K hV hg bU aG a_0 b_0
  try simp only [PT]
  exact wpAnyH_cast (by kernel_rfl) (J5 gy v22 dW a_22 b_22 cW (hJ (aM.out)))
 case rest =>
  obtain ⟨G2,H2,s2a,A2a,n2a,c2a,s2b,A2b,n2b,c2b,rfl,rfl,hq1,hq2,hr1,hr2,hbx⟩:=hcut
  have gH:=hJ hq1
  have gI:=hJ hq2
  have eF:=hJ hr1
  have eG:=hJ hr2
  have cG:=hJ hbx
  obtain ⟨x2,rfl⟩:=nm_world hbx
  clear hq1 hq2 hr1 hr2 hbx aD hU
  have hn2a:n2a≤512:=plim eF.out aZ.out.2.2.2.1
  have hn2b:n2b≤512:=plim eG.out aZ.out.2.2.2.2.2
  have hY:=hJ (cI.out.new cG.out)
  have hZ:=hJ (fO.out.new cG.out)
  have iA:=hJ (cJ.out.new cG.out)
  have iB:=hJ (fP.out.new cG.out)
  have iC:=hJ (fN.out.new cG.out)
  have iD:=hJ (hT.out.new cG.out)
  have iE:=hJ (bt HK.out cG.out)
  clear cI fO cJ fP fN hT HK cG
  have aW:=hJ (ad_gcd aZ.out.1 aZ.out.2.1 aZ.out.2.2.2.1 aZ.out.2.2.2.2.2)
  obtain ⟨clq0_3,clq1_3⟩:=gH.out.cells
  obtain ⟨cls0_3,cls1_3⟩:=gI.out.cells
  go_wp2_with fail
  refine (fcommon_any q s s2a s2b A2a A2b n2a c2a n2b c2b x2 eF.out eG.out (by omega) (by omega)).mono ?_
  rintro e w3 ⟨s3,A3,n3,c3,rfl,hr3,hb3⟩
  obtain ⟨x3,eH⟩:=nmz (w3.alloc (.cells #[.bool s3,.slice A3 n3 c3] 33))
  have bV:=hJ (show Below x2.heap.size x2 x3 by rw [←eH]; exact hb3.alloc hb3.size _)
  have eI:=hJ (show P2 33 x3 w3.heap.size (.bool s3) (.slice A3 n3 c3) by rw [←eH]; exact P2.lit _ _ _ _)
  have eJ:=hJ (show PI x3 s3 A3 n3 c3 (adG q s) by rw [←eH]; exact PIo.new hr3 ((Below.refl _ _).alloc (Nat.le_refl _) _))
  have hn3:n3≤512:=plim hr3 (by exact aW.out.2.1)
  clear hr3 hb3
  have iF:=hJ (hY.out.new bV.out)
  have iG:=hJ (hZ.out.new bV.out)
  have iH:=hJ (iA.out.new bV.out)
  have iI:=hJ (iB.out.new bV.out)
  have iJ:=hJ (iC.out.new bV.out)
  have iK:=hJ (iD.out.new bV.out)
  have eK:=hJ (gH.out.new bV.out)
  have gJ:=hJ (PIo.new eF.out bV.out)
  have eL:=hJ (gI.out.new bV.out)
  have gK:=hJ (PIo.new eG.out bV.out)
  have iL:=hJ (bt iE.out bV.out)
  clear hY hZ iA iB iC iD gH eF gI eG iE clq0_3 clq1_3 cls0_3 cls1_3 bV
  obtain ⟨g,hg⟩:∃ g,adG q s=g:=⟨_,rfl⟩
  rw [hg] at aW eJ
  obtain ⟨qp,hqp⟩:∃ x,q / g=x:=⟨_,rfl⟩
  obtain ⟨sp,hsp⟩:∃ x,s / g=x:=⟨_,rfl⟩
  have cH:=hJ (And.intro hg (And.intro hqp hsp))
  rw [hqp,hsp] at aW
  clear hg hqp hsp
  have aF:Hid (∀ w',Below x3.heap.size x3 w'→(fun w':World=>w'.cell? ⟨G2,0,none⟩=some (.bool s2a)∧w'.cell? ⟨G2,1,none⟩=some (.slice A2a n2a c2a)∧w'.cell? ⟨H2,0,none⟩=some (.bool s2b)∧w'.cell? ⟨H2,1,none⟩=some (.slice A2b n2b c2b)∧w'.cell? ⟨w3.heap.size,0,none⟩=some (.bool s3)∧w'.cell? ⟨w3.heap.size,1,none⟩=some (.slice A3 n3 c3)∧Below x3.heap.size x3 w') w'):=hJ (fun w' hb=>⟨(eK.out.new hb).cells.1,(eK.out.new hb).cells.2,(eL.out.new hb).cells.1,(eL.out.new hb).cells.2,(eI.out.new hb).cells.1,(eI.out.new hb).cells.2,hb⟩)
  have iM:=hJ (Below.refl x3.heap.size x3)
  go_upto_region 3 with fail
  clear eH
  go_cut [9,10] (fun tp tq wx=>∃ (G H:Nat) (s4a:Bool) (A4a:Option Addr) (n4a c4a:Nat) (s4b:Bool) (A4b:Option Addr) (n4b c4b:Nat),tp=.pointer (some ⟨G,0,none⟩)∧tq=.pointer (some ⟨H,0,none⟩)∧P2 33 wx G (.bool s4a) (.slice A4a n4a c4a)∧P2 33 wx H (.bool s4b) (.slice A4b n4b c4b)∧PI wx s4a A4a n4a c4a (q / g)∧PI wx s4b A4b n4b c4b (s / g)∧Below x3.heap.size x3 wx)
  case first =>
   have cK:=iM
   obtain ⟨v0,hv0⟩:=nmz (World.drew x3)
   have aG:=hJ (show Below x3.heap.size x3 v0 by rw [←hv0]; exact (Below.refl _ _).drew)
   have q_0:=hJ (PIo.new gJ.out aG.out)
   have s_0:=hJ (PIo.new gK.out aG.out)
   have g_0:=hJ (PIo.new eJ.out aG.out)
   refine wp_region_held_drew (S:=(fun w':World=>w'.cell? ⟨G2,0,none⟩=some (.bool s2a)∧w'.cell? ⟨G2,1,none⟩=some (.slice A2a n2a c2a)∧w'.cell? ⟨H2,0,none⟩=some (.bool s2b)∧w'.cell? ⟨H2,1,none⟩=some (.slice A2b n2b c2b)∧w'.cell? ⟨w3.heap.size,0,none⟩=some (.bool s3)∧w'.cell? ⟨w3.heap.size,1,none⟩=some (.slice A3 n3 c3)∧Below x3.heap.size x3 w')) (by kernel_rfl) ?_ (fun hHeld=>?_)
   ·rw [hv0]
    exact aF.out _ aG.out
   rw [hv0] at hHeld ⊢
   clear hv0 cK
   refine tq 0 ?_
   refine tq 1 ?_
   refine tq 3 ?_
   refine tq 4 ?_
   try simp only [PT]
   refine wpAnyH_name (fun F hF a0 ha0 L0 hL0=>?_)
   have dA:∀ (s4a:Bool) (A4a:Option Addr) (n4a:Nat) (c4a:Nat) (s4b:Bool) (A4b:Option Addr) (n4b:Nat) (c4b:Nat) (gx:Nat) (gy:Nat) (v:World),Hid (Below x3.heap.size x3 v)→Hid (PI v s2a A2a n2a c2a (q))→Hid (PI v s2b A2b n2b c2b (s))→Hid (PI v s3 A3 n3 c3 (g))→Hid (PI v s4a A4a n4a c4a (q / g))→Hid (PI v s4b A4b n4b c4b (s / g))→Hid (P2 33 v gx (.bool false) (.slice none 0 0))→Hid (x3.heap.size≤gx)→Hid (P2 33 v gy (.bool false) (.slice none 0 0))→Hid (x3.heap.size≤gy)→Hid (gx≠gy)→F 2 (Array.setIfInBounds (Array.setIfInBounds (Array.setIfInBounds (Array.setIfInBounds L0 2 true) 5 true) 6 true) 7 true) (Act.put (Act.put (Act.put (Act.put a0 (some 30) (.agg #[.bool s4a,.slice A4a n4a c4a])) (some 33) (.agg #[.bool s4b,.slice A4b n4b c4b])) (some 9) (.pointer (some ⟨gx,0,none⟩))) (some 10) (.pointer (some ⟨gy,0,none⟩))) v:=by
    intro s4a A4a n4a c4a s4b A4b n4b c4b gx gy v aA q_j s_j g_j N0_j N1_j aB aI aC aJ bP
    subst hF ha0 hL0
    simp only [PT] at  ⊢
    have hHeld:=aF.out _ aA.out
    refine ryy [8] ?_
    refine .cons rfl (fun K hK=>?_) .nil
    obtain ⟨z0,z1⟩:=aB.out.cells
    have y0:=aB.out.frozen 0
    have y1:=aB.out.frozen 1
    have z9:=aB.out.lt
    go_simp
    obtain ⟨v1,hV⟩:=nmz (World.setCell (World.setCell v ⟨gx,0,none⟩ (.bool s4a)) ⟨gx,1,none⟩ (.slice A4a n4a c4a))
    rw [hV]
    have bW:=hJ (show Below x3.heap.size x3 v1 by rw [←hV]; exact below_box aA.out (aI.out) _ _)
    have q_1:=hJ (show PI v1 s2a A2a n2a c2a (q) by rw [←hV]; exact PIo.box (q_j.out) (aB.out) rfl rfl (.bool s4a) (.slice A4a n4a c4a))
    have s_1:=hJ (show PI v1 s2b A2b n2b c2b (s) by rw [←hV]; exact PIo.box (s_j.out) (aB.out) rfl rfl (.bool s4a) (.slice A4a n4a c4a))
    have g_1:=hJ (show PI v1 s3 A3 n3 c3 (g) by rw [←hV]; exact PIo.box (g_j.out) (aB.out) rfl rfl (.bool s4a) (.slice A4a n4a c4a))
    have N0_1:=hJ (show PI v1 s4a A4a n4a c4a (q / g) by rw [←hV]; exact PIo.box (N0_j.out) (aB.out) rfl rfl (.bool s4a) (.slice A4a n4a c4a))
    have N1_1:=hJ (show PI v1 s4b A4b n4b c4b (s / g) by rw [←hV]; exact PIo.box (N1_j.out) (aB.out) rfl rfl (.bool s4a) (.slice A4a n4a c4a))
    have aO:=hJ (show P2 33 v1 gy (.bool false) (.slice none 0 0) by rw [←hV]; exact aC.out.far2 (show gy≠gx from bP.out.symm) (.bool s4a) (.slice A4a n4a c4a))
    have dD:=hJ (show P2 33 v1 gx (.bool s4a) (.slice A4a n4a c4a) by rw [←hV]; exact aB.out.all (.bool s4a) (.slice A4a n4a c4a))
    clear hHeld
    refine hK.out _ _ (aF.out _ bW.out) (fun hHeld=>?_)
    clear hK K hV z9 z0 z1 y0 y1 aA q_j s_j g_j N0_j N1_j aC aB
    try simp only [PT]
    refine ryy [9] ?_
    refine .cons rfl (fun K hK=>?_) .nil
    obtain ⟨z0,z1⟩:=aO.out.cells
    have y0:=aO.out.frozen 0
    have y1:=aO.out.frozen 1
    have z9:=aO.out.lt
    go_simp
    obtain ⟨v2,hV⟩:=nmz (World.setCell (World.setCell v1 ⟨gy,0,none⟩ (.bool s4b)) ⟨gy,1,none⟩ (.slice A4b n4b c4b))
    rw [hV]
    have cB:=hJ (show Below x3.heap.size x3 v2 by rw [←hV]; exact below_box bW.out (aJ.out) _ _)
    have q_2:=hJ (show PI v2 s2a A2a n2a c2a (q) by rw [←hV]; exact PIo.box (q_1.out) (aO.out) rfl rfl (.bool s4b) (.slice A4b n4b c4b))
    have s_2:=hJ (show PI v2 s2b A2b n2b c2b (s) by rw [←hV]; exact PIo.box (s_1.out) (aO.out) rfl rfl (.bool s4b) (.slice A4b n4b c4b))
    have g_2:=hJ (show PI v2 s3 A3 n3 c3 (g) by rw [←hV]; exact PIo.box (g_1.out) (aO.out) rfl rfl (.bool s4b) (.slice A4b n4b c4b))
    have N0_2:=hJ (show PI v2 s4a A4a n4a c4a (q / g) by rw [←hV]; exact PIo.box (N0_1.out) (aO.out) rfl rfl (.bool s4b) (.slice A4b n4b c4b))
    have N1_2:=hJ (show PI v2 s4b A4b n4b c4b (s / g) by rw [←hV]; exact PIo.box (N1_1.out) (aO.out) rfl rfl (.bool s4b) (.slice A4b n4b c4b))
    have fQ:=hJ (show P2 33 v2 gx (.bool s4a) (.slice A4a n4a c4a) by rw [←hV]; exact dD.out.far2 (show gx≠gy from bP.out) (.bool s4b) (.slice A4b n4b c4b))
    have fR:=hJ (show P2 33 v2 gy (.bool s4b) (.slice A4b n4b c4b) by rw [←hV]; exact aO.out.all (.bool s4b) (.slice A4b n4b c4b))
    clear hHeld
    refine hK.out _ _ (aF.out _ cB.out) (fun hHeld=>?_)
    clear hK K hV z9 z0 z1 y0 y1 bW q_1 s_1 g_1 N0_1 N1_1 dD aO
    try simp only [PT]
    refine wpAnyH_done (by kernel_rfl) ?_ _
    clear hHeld
    go_wp2_with fail
    go_meet
    exact ⟨gx,gy,s4a,A4a,n4a,c4a,s4b,A4b,n4b,c4b,rfl,rfl,fQ.out,fR.out,N0_2.out,N1_2.out,cB.out⟩
   have eM:∀ (s4a:Bool) (A4a:Option Addr) (n4a:Nat) (c4a:Nat) (s4b:Bool) (A4b:Option Addr) (n4b:Nat) (c4b:Nat) (gx:Nat) (v:World),Hid (Below x3.heap.size x3 v)→Hid (PI v s2a A2a n2a c2a (q))→Hid (PI v s2b A2b n2b c2b (s))→Hid (PI v s3 A3 n3 c3 (g))→Hid (PI v s4a A4a n4a c4a (q / g))→Hid (PI v s4b A4b n4b c4b (s / g))→Hid (P2 33 v gx (.bool false) (.slice none 0 0))→Hid (x3.heap.size≤gx)→F 3 (Array.setIfInBounds (Array.setIfInBounds (Array.setIfInBounds L0 2 true) 5 true) 6 true) (Act.put (Act.put (Act.put a0 (some 30) (.agg #[.bool s4a,.slice A4a n4a c4a])) (some 33) (.agg #[.bool s4b,.slice A4b n4b c4b])) (some 9) (.pointer (some ⟨gx,0,none⟩))) v:=by
    intro s4a A4a n4a c4a s4b A4b n4b c4b gx v aA q_j s_j g_j N0_j N1_j aB aI
    subst hF ha0 hL0
    simp only [PT] at dA ⊢
    have hHeld:=aF.out _ aA.out
    refine ryy [7] ?_
    refine .cons rfl (fun K hK=>?_) .nil
    go_simp
    have aH:=hJ ((Below.refl v.heap.size v).alloc (Nat.le_refl _) (.cells #[.bool false,.slice none 0 0] 33))
    have cL:=hJ (P2.lit v 33 (.bool false) (.slice none 0 0))
    obtain ⟨v3,hV⟩:=nmz (World.alloc v (.cells #[.bool false,.slice none 0 0] 33))
    obtain ⟨gy,hg⟩:=nmz (v.heap.size)
    rw [hV] at aH cL  ⊢
    rw [hg] at cL  ⊢
    have aM:=hJ (show x3.heap.size≤gy by rw [←hg]; exact aA.out.size)
    have bX:=hJ (show gx≠gy by have:=aB.out.lt; rw [hg] at this; omega)
    have cC:=hJ (bt aA.out aH.out)
    have q_3:=hJ (PIo.new q_j.out aH.out)
    have s_3:=hJ (PIo.new s_j.out aH.out)
    have g_3:=hJ (PIo.new g_j.out aH.out)
    have N0_3:=hJ (PIo.new N0_j.out aH.out)
    have N1_3:=hJ (PIo.new N1_j.out aH.out)
    have fS:=hJ (aB.out.new aH.out)
    clear hHeld
    refine hK.out _ _ (aF.out _ cC.out) (fun hHeld=>?_)
    clear hK K hV hg aH aA q_j s_j g_j N0_j N1_j aB
    try simp only [PT]
    exact wpAnyH_cast (by kernel_rfl) (dA s4a A4a n4a c4a s4b A4b n4b c4b gx gy v3 cC q_3 s_3 g_3 N0_3 N1_3 fS (hJ (aI.out)) cL (hJ (aM.out)) (hJ (bX.out)))
   have eN:∀ (s4a:Bool) (A4a:Option Addr) (n4a:Nat) (c4a:Nat) (s4b:Bool) (A4b:Option Addr) (n4b:Nat) (c4b:Nat) (gy:Nat) (v:World),Hid (Below x3.heap.size x3 v)→Hid (PI v s2a A2a n2a c2a (q))→Hid (PI v s2b A2b n2b c2b (s))→Hid (PI v s3 A3 n3 c3 (g))→Hid (PI v s4a A4a n4a c4a (q / g))→Hid (PI v s4b A4b n4b c4b (s / g))→Hid (P2 33 v gy (.bool false) (.slice none 0 0))→Hid (x3.heap.size≤gy)→F 3 (Array.setIfInBounds (Array.setIfInBounds (Array.setIfInBounds L0 2 true) 5 true) 7 true) (Act.put (Act.put (Act.put a0 (some 30) (.agg #[.bool s4a,.slice A4a n4a c4a])) (some 33) (.agg #[.bool s4b,.slice A4b n4b c4b])) (some 10) (.pointer (some ⟨gy,0,none⟩))) v:=by
    intro s4a A4a n4a c4a s4b A4b n4b c4b gy v aA q_j s_j g_j N0_j N1_j aC aJ
    subst hF ha0 hL0
    simp only [PT] at dA ⊢
    have hHeld:=aF.out _ aA.out
    refine ryy [6] ?_
    refine .cons rfl (fun K hK=>?_) .nil
    go_simp
    have aV:=hJ ((Below.refl v.heap.size v).alloc (Nat.le_refl _) (.cells #[.bool false,.slice none 0 0] 33))
    have cM:=hJ (P2.lit v 33 (.bool false) (.slice none 0 0))
    obtain ⟨v4,hV⟩:=nmz (World.alloc v (.cells #[.bool false,.slice none 0 0] 33))
    obtain ⟨gx,hg⟩:=nmz (v.heap.size)
    rw [hV] at aV cM  ⊢
    rw [hg] at cM  ⊢
    have aN:=hJ (show x3.heap.size≤gx by rw [←hg]; exact aA.out.size)
    have bY:=hJ (show gy≠gx by have:=aC.out.lt; rw [hg] at this; omega)
    have cF:=hJ (bt aA.out aV.out)
    have q_4:=hJ (PIo.new q_j.out aV.out)
    have s_4:=hJ (PIo.new s_j.out aV.out)
    have g_4:=hJ (PIo.new g_j.out aV.out)
    have N0_4:=hJ (PIo.new N0_j.out aV.out)
    have N1_4:=hJ (PIo.new N1_j.out aV.out)
    have fT:=hJ (aC.out.new aV.out)
    clear hHeld
    refine hK.out _ _ (aF.out _ cF.out) (fun hHeld=>?_)
    clear hK K hV hg aV aA q_j s_j g_j N0_j N1_j aC
    try simp only [PT]
    exact wpAnyH_cast (by kernel_rfl) (dA s4a A4a n4a c4a s4b A4b n4b c4b gx gy v4 cF q_4 s_4 g_4 N0_4 N1_4 cM (hJ (aN.out)) fT (hJ (aJ.out)) (hJ (bY.out.symm)))
   have dB:∀ (s4a:Bool) (A4a:Option Addr) (n4a:Nat) (c4a:Nat) (gx:Nat) (gy:Nat) (v:World),Hid (Below x3.heap.size x3 v)→Hid (PI v s2a A2a n2a c2a (q))→Hid (PI v s2b A2b n2b c2b (s))→Hid (PI v s3 A3 n3 c3 (g))→Hid (PI v s4a A4a n4a c4a (q / g))→Hid (P2 33 v gx (.bool false) (.slice none 0 0))→Hid (x3.heap.size≤gx)→Hid (P2 33 v gy (.bool false) (.slice none 0 0))→Hid (x3.heap.size≤gy)→Hid (gx≠gy)→F 3 (Array.setIfInBounds (Array.setIfInBounds (Array.setIfInBounds L0 2 true) 6 true) 7 true) (Act.put (Act.put (Act.put a0 (some 30) (.agg #[.bool s4a,.slice A4a n4a c4a])) (some 9) (.pointer (some ⟨gx,0,none⟩))) (some 10) (.pointer (some ⟨gy,0,none⟩))) v:=by
    intro s4a A4a n4a c4a gx gy v aA q_j s_j g_j N0_j aB aI aC aJ bP
    subst hF ha0 hL0
    simp only [PT] at dA ⊢
    have hHeld:=aF.out _ aA.out
    refine ryy [5] ?_
    refine .cons rfl (fun K hK=>?_) .nil
    go_simp
    go_at_call_of 95 (#[Value.agg #[.bool s2b,.slice A2b n2b c2b],Value.agg #[.bool s3,.slice A3 n3 c3]])
    refine (fdivided_any s g s2b s3 A2b A3 n2b c2b n3 c3 v (s_j.out) (g_j.out) (by omega) (by omega) aW.out.1).mono ?_
    rintro e v5 ⟨s4b,A4b,n4b,c4b,rfl,hr,hk⟩
    have N1_5:=hJ (hr)
    have bA:=hJ hk
    go_wp2_with fail
    have dE:=hJ (bt aA.out bA.out)
    have q_5:=hJ (PIo.new q_j.out bA.out)
    have s_5:=hJ (PIo.new s_j.out bA.out)
    have g_5:=hJ (PIo.new g_j.out bA.out)
    have N0_5:=hJ (PIo.new N0_j.out bA.out)
    have fU:=hJ (aB.out.new bA.out)
    have fV:=hJ (aC.out.new bA.out)
    clear hHeld
    refine hK.out _ _ (aF.out _ dE.out) (fun hHeld=>?_)
    clear hK K hk bA hr aA q_j s_j g_j N0_j aB aC
    try simp only [PT]
    exact wpAnyH_cast (by kernel_rfl) (dA s4a A4a n4a c4a s4b A4b n4b c4b gx gy v5 dE q_5 s_5 g_5 N0_5 N1_5 fU (hJ (aI.out)) fV (hJ (aJ.out)) (hJ (bP.out)))
   have iN:∀ (s4a:Bool) (A4a:Option Addr) (n4a:Nat) (c4a:Nat) (s4b:Bool) (A4b:Option Addr) (n4b:Nat) (c4b:Nat) (v:World),Hid (Below x3.heap.size x3 v)→Hid (PI v s2a A2a n2a c2a (q))→Hid (PI v s2b A2b n2b c2b (s))→Hid (PI v s3 A3 n3 c3 (g))→Hid (PI v s4a A4a n4a c4a (q / g))→Hid (PI v s4b A4b n4b c4b (s / g))→F 4 (Array.setIfInBounds (Array.setIfInBounds L0 2 true) 5 true) (Act.put (Act.put a0 (some 30) (.agg #[.bool s4a,.slice A4a n4a c4a])) (some 33) (.agg #[.bool s4b,.slice A4b n4b c4b])) v:=by
    intro s4a A4a n4a c4a s4b A4b n4b c4b v aA q_j s_j g_j N0_j N1_j
    subst hF ha0 hL0
    simp only [PT] at eM eN ⊢
    have hHeld:=aF.out _ aA.out
    refine ryy [6,7] ?_
    refine .cons rfl (fun K hK=>?_) ?_
    go_simp
    have bB:=hJ ((Below.refl v.heap.size v).alloc (Nat.le_refl _) (.cells #[.bool false,.slice none 0 0] 33))
    have cN:=hJ (P2.lit v 33 (.bool false) (.slice none 0 0))
    obtain ⟨v6,hV⟩:=nmz (World.alloc v (.cells #[.bool false,.slice none 0 0] 33))
    obtain ⟨gx,hg⟩:=nmz (v.heap.size)
    rw [hV] at bB cN  ⊢
    rw [hg] at cN  ⊢
    have aN:=hJ (show x3.heap.size≤gx by rw [←hg]; exact aA.out.size)
    have dF:=hJ (bt aA.out bB.out)
    have q_6:=hJ (PIo.new q_j.out bB.out)
    have s_6:=hJ (PIo.new s_j.out bB.out)
    have g_6:=hJ (PIo.new g_j.out bB.out)
    have N0_6:=hJ (PIo.new N0_j.out bB.out)
    have N1_6:=hJ (PIo.new N1_j.out bB.out)
    clear hHeld
    refine hK.out _ _ (aF.out _ dF.out) (fun hHeld=>?_)
    clear hK K hV hg bB aA q_j s_j g_j N0_j N1_j
    try simp only [PT]
    exact wpAnyH_cast (by kernel_rfl) (eM s4a A4a n4a c4a s4b A4b n4b c4b gx v6 dF q_6 s_6 g_6 N0_6 N1_6 cN (hJ (aN.out)))
    refine .cons rfl (fun K hK=>?_) .nil
    go_simp
    have bC:=hJ ((Below.refl v.heap.size v).alloc (Nat.le_refl _) (.cells #[.bool false,.slice none 0 0] 33))
    have cO:=hJ (P2.lit v 33 (.bool false) (.slice none 0 0))
    obtain ⟨v7,hV⟩:=nmz (World.alloc v (.cells #[.bool false,.slice none 0 0] 33))
    obtain ⟨gy,hg⟩:=nmz (v.heap.size)
    rw [hV] at bC cO  ⊢
    rw [hg] at cO  ⊢
    have aM:=hJ (show x3.heap.size≤gy by rw [←hg]; exact aA.out.size)
    have dG:=hJ (bt aA.out bC.out)
    have q_7:=hJ (PIo.new q_j.out bC.out)
    have s_7:=hJ (PIo.new s_j.out bC.out)
    have g_7:=hJ (PIo.new g_j.out bC.out)
    have N0_7:=hJ (PIo.new N0_j.out bC.out)
    have N1_7:=hJ (PIo.new N1_j.out bC.out)
    clear hHeld
    refine hK.out _ _ (aF.out _ dG.out) (fun hHeld=>?_)
    clear hK K hV hg bC aA q_j s_j g_j N0_j N1_j
    try simp only [PT]
    exact wpAnyH_cast (by kernel_rfl) (eN s4a A4a n4a c4a s4b A4b n4b c4b gy v7 dG q_7 s_7 g_7 N0_7 N1_7 cO (hJ (aM.out)))
   have eO:∀ (s4a:Bool) (A4a:Option Addr) (n4a:Nat) (c4a:Nat) (gx:Nat) (v:World),Hid (Below x3.heap.size x3 v)→Hid (PI v s2a A2a n2a c2a (q))→Hid (PI v s2b A2b n2b c2b (s))→Hid (PI v s3 A3 n3 c3 (g))→Hid (PI v s4a A4a n4a c4a (q / g))→Hid (P2 33 v gx (.bool false) (.slice none 0 0))→Hid (x3.heap.size≤gx)→F 4 (Array.setIfInBounds (Array.setIfInBounds L0 2 true) 6 true) (Act.put (Act.put a0 (some 30) (.agg #[.bool s4a,.slice A4a n4a c4a])) (some 9) (.pointer (some ⟨gx,0,none⟩))) v:=by
    intro s4a A4a n4a c4a gx v aA q_j s_j g_j N0_j aB aI
    subst hF ha0 hL0
    simp only [PT] at eM dB ⊢
    have hHeld:=aF.out _ aA.out
    refine ryy [5,7] ?_
    refine .cons rfl (fun K hK=>?_) ?_
    go_simp
    go_at_call_of 95 (#[Value.agg #[.bool s2b,.slice A2b n2b c2b],Value.agg #[.bool s3,.slice A3 n3 c3]])
    refine (fdivided_any s g s2b s3 A2b A3 n2b c2b n3 c3 v (s_j.out) (g_j.out) (by omega) (by omega) aW.out.1).mono ?_
    rintro e v8 ⟨s4b,A4b,n4b,c4b,rfl,hr,hk⟩
    have N1_8:=hJ (hr)
    have bF:=hJ hk
    go_wp2_with fail
    have dH:=hJ (bt aA.out bF.out)
    have q_8:=hJ (PIo.new q_j.out bF.out)
    have s_8:=hJ (PIo.new s_j.out bF.out)
    have g_8:=hJ (PIo.new g_j.out bF.out)
    have N0_8:=hJ (PIo.new N0_j.out bF.out)
    have fW:=hJ (aB.out.new bF.out)
    clear hHeld
    refine hK.out _ _ (aF.out _ dH.out) (fun hHeld=>?_)
    clear hK K hk bF hr aA q_j s_j g_j N0_j aB
    try simp only [PT]
    exact wpAnyH_cast (by kernel_rfl) (eM s4a A4a n4a c4a s4b A4b n4b c4b gx v8 dH q_8 s_8 g_8 N0_8 N1_8 fW (hJ (aI.out)))
    refine .cons rfl (fun K hK=>?_) .nil
    go_simp
    have bD:=hJ ((Below.refl v.heap.size v).alloc (Nat.le_refl _) (.cells #[.bool false,.slice none 0 0] 33))
    have cP:=hJ (P2.lit v 33 (.bool false) (.slice none 0 0))
    obtain ⟨v9,hV⟩:=nmz (World.alloc v (.cells #[.bool false,.slice none 0 0] 33))
    obtain ⟨gy,hg⟩:=nmz (v.heap.size)
    rw [hV] at bD cP  ⊢
    rw [hg] at cP  ⊢
    have aM:=hJ (show x3.heap.size≤gy by rw [←hg]; exact aA.out.size)
    have bX:=hJ (show gx≠gy by have:=aB.out.lt; rw [hg] at this; omega)
    have dI:=hJ (bt aA.out bD.out)
    have q_9:=hJ (PIo.new q_j.out bD.out)
    have s_9:=hJ (PIo.new s_j.out bD.out)
    have g_9:=hJ (PIo.new g_j.out bD.out)
    have N0_9:=hJ (PIo.new N0_j.out bD.out)
    have fX:=hJ (aB.out.new bD.out)
    clear hHeld
    refine hK.out _ _ (aF.out _ dI.out) (fun hHeld=>?_)
    clear hK K hV hg bD aA q_j s_j g_j N0_j aB
    try simp only [PT]
    exact wpAnyH_cast (by kernel_rfl) (dB s4a A4a n4a c4a gx gy v9 dI q_9 s_9 g_9 N0_9 fX (hJ (aI.out)) cP (hJ (aM.out)) (hJ (bX.out)))
   have eP:∀ (s4a:Bool) (A4a:Option Addr) (n4a:Nat) (c4a:Nat) (gy:Nat) (v:World),Hid (Below x3.heap.size x3 v)→Hid (PI v s2a A2a n2a c2a (q))→Hid (PI v s2b A2b n2b c2b (s))→Hid (PI v s3 A3 n3 c3 (g))→Hid (PI v s4a A4a n4a c4a (q / g))→Hid (P2 33 v gy (.bool false) (.slice none 0 0))→Hid (x3.heap.size≤gy)→F 4 (Array.setIfInBounds (Array.setIfInBounds L0 2 true) 7 true) (Act.put (Act.put a0 (some 30) (.agg #[.bool s4a,.slice A4a n4a c4a])) (some 10) (.pointer (some ⟨gy,0,none⟩))) v:=by
    intro s4a A4a n4a c4a gy v aA q_j s_j g_j N0_j aC aJ
    subst hF ha0 hL0
    simp only [PT] at eN dB ⊢
    have hHeld:=aF.out _ aA.out
    refine ryy [5,6] ?_
    refine .cons rfl (fun K hK=>?_) ?_
    go_simp
    go_at_call_of 95 (#[Value.agg #[.bool s2b,.slice A2b n2b c2b],Value.agg #[.bool s3,.slice A3 n3 c3]])
    refine (fdivided_any s g s2b s3 A2b A3 n2b c2b n3 c3 v (s_j.out) (g_j.out) (by omega) (by omega) aW.out.1).mono ?_
    rintro e v10 ⟨s4b,A4b,n4b,c4b,rfl,hr,hk⟩
    have N1_10:=hJ (hr)
    have bG:=hJ hk
    go_wp2_with fail
    have dJ:=hJ (bt aA.out bG.out)
    have q_10:=hJ (PIo.new q_j.out bG.out)
    have s_10:=hJ (PIo.new s_j.out bG.out)
    have g_10:=hJ (PIo.new g_j.out bG.out)
    have N0_10:=hJ (PIo.new N0_j.out bG.out)
    have fY:=hJ (aC.out.new bG.out)
    clear hHeld
    refine hK.out _ _ (aF.out _ dJ.out) (fun hHeld=>?_)
    clear hK K hk bG hr aA q_j s_j g_j N0_j aC
    try simp only [PT]
    exact wpAnyH_cast (by kernel_rfl) (eN s4a A4a n4a c4a s4b A4b n4b c4b gy v10 dJ q_10 s_10 g_10 N0_10 N1_10 fY (hJ (aJ.out)))
    refine .cons rfl (fun K hK=>?_) .nil
    go_simp
    have bE:=hJ ((Below.refl v.heap.size v).alloc (Nat.le_refl _) (.cells #[.bool false,.slice none 0 0] 33))
    have cQ:=hJ (P2.lit v 33 (.bool false) (.slice none 0 0))
    obtain ⟨v11,hV⟩:=nmz (World.alloc v (.cells #[.bool false,.slice none 0 0] 33))
    obtain ⟨gx,hg⟩:=nmz (v.heap.size)
    rw [hV] at bE cQ  ⊢
    rw [hg] at cQ  ⊢
    have aN:=hJ (show x3.heap.size≤gx by rw [←hg]; exact aA.out.size)
    have bY:=hJ (show gy≠gx by have:=aC.out.lt; rw [hg] at this; omega)
    have dK:=hJ (bt aA.out bE.out)
    have q_11:=hJ (PIo.new q_j.out bE.out)
    have s_11:=hJ (PIo.new s_j.out bE.out)
    have g_11:=hJ (PIo.new g_j.out bE.out)
    have N0_11:=hJ (PIo.new N0_j.out bE.out)
    have fZ:=hJ (aC.out.new bE.out)
    clear hHeld
    refine hK.out _ _ (aF.out _ dK.out) (fun hHeld=>?_)
    clear hK K hV hg bE aA q_j s_j g_j N0_j aC
    try simp only [PT]
    exact wpAnyH_cast (by kernel_rfl) (dB s4a A4a n4a c4a gx gy v11 dK q_11 s_11 g_11 N0_11 cQ (hJ (aN.out)) fZ (hJ (aJ.out)) (hJ (bY.out.symm)))
   have eQ:∀ (gx:Nat) (gy:Nat) (v:World),Hid (Below x3.heap.size x3 v)→Hid (PI v s2a A2a n2a c2a (q))→Hid (PI v s2b A2b n2b c2b (s))→Hid (PI v s3 A3 n3 c3 (g))→Hid (P2 33 v gx (.bool false) (.slice none 0 0))→Hid (x3.heap.size≤gx)→Hid (P2 33 v gy (.bool false) (.slice none 0 0))→Hid (x3.heap.size≤gy)→Hid (gx≠gy)→F 4 (Array.setIfInBounds (Array.setIfInBounds L0 6 true) 7 true) (Act.put (Act.put a0 (some 9) (.pointer (some ⟨gx,0,none⟩))) (some 10) (.pointer (some ⟨gy,0,none⟩))) v:=by
    intro gx gy v aA q_j s_j g_j aB aI aC aJ bP
    subst hF ha0 hL0
    simp only [PT] at dB ⊢
    have hHeld:=aF.out _ aA.out
    refine ryy [2] ?_
    refine .cons rfl (fun K hK=>?_) .nil
    go_simp
    go_at_call_of 95 (#[Value.agg #[.bool s2a,.slice A2a n2a c2a],Value.agg #[.bool s3,.slice A3 n3 c3]])
    refine (fdivided_any q g s2a s3 A2a A3 n2a c2a n3 c3 v (q_j.out) (g_j.out) (by omega) (by omega) aW.out.1).mono ?_
    rintro e v12 ⟨s4a,A4a,n4a,c4a,rfl,hr,hk⟩
    have N0_12:=hJ (hr)
    have bH:=hJ hk
    go_wp2_with fail
    have dL:=hJ (bt aA.out bH.out)
    have q_12:=hJ (PIo.new q_j.out bH.out)
    have s_12:=hJ (PIo.new s_j.out bH.out)
    have g_12:=hJ (PIo.new g_j.out bH.out)
    have gA:=hJ (aB.out.new bH.out)
    have gB:=hJ (aC.out.new bH.out)
    clear hHeld
    refine hK.out _ _ (aF.out _ dL.out) (fun hHeld=>?_)
    clear hK K hk bH hr aA q_j s_j g_j aB aC
    try simp only [PT]
    exact wpAnyH_cast (by kernel_rfl) (dB s4a A4a n4a c4a gx gy v12 dL q_12 s_12 g_12 N0_12 gA (hJ (aI.out)) gB (hJ (aJ.out)) (hJ (bP.out)))
   have J2:∀ (s4a:Bool) (A4a:Option Addr) (n4a:Nat) (c4a:Nat) (v:World),Hid (Below x3.heap.size x3 v)→Hid (PI v s2a A2a n2a c2a (q))→Hid (PI v s2b A2b n2b c2b (s))→Hid (PI v s3 A3 n3 c3 (g))→Hid (PI v s4a A4a n4a c4a (q / g))→F 5 (Array.setIfInBounds L0 2 true) (Act.put a0 (some 30) (.agg #[.bool s4a,.slice A4a n4a c4a])) v:=by
    intro s4a A4a n4a c4a v aA q_j s_j g_j N0_j
    subst hF ha0 hL0
    simp only [PT] at iN eO eP ⊢
    have hHeld:=aF.out _ aA.out
    refine ryy [5,6,7] ?_
    refine .cons rfl (fun K hK=>?_) ?_
    go_simp
    go_at_call_of 95 (#[Value.agg #[.bool s2b,.slice A2b n2b c2b],Value.agg #[.bool s3,.slice A3 n3 c3]])
    refine (fdivided_any s g s2b s3 A2b A3 n2b c2b n3 c3 v (s_j.out) (g_j.out) (by omega) (by omega) aW.out.1).mono ?_
    rintro e v13 ⟨s4b,A4b,n4b,c4b,rfl,hr,hk⟩
    have N1_13:=hJ (hr)
    have bQ:=hJ hk
    go_wp2_with fail
    have dM:=hJ (bt aA.out bQ.out)
    have q_13:=hJ (PIo.new q_j.out bQ.out)
    have s_13:=hJ (PIo.new s_j.out bQ.out)
    have g_13:=hJ (PIo.new g_j.out bQ.out)
    have N0_13:=hJ (PIo.new N0_j.out bQ.out)
    clear hHeld
    refine hK.out _ _ (aF.out _ dM.out) (fun hHeld=>?_)
    clear hK K hk bQ hr aA q_j s_j g_j N0_j
    try simp only [PT]
    exact wpAnyH_cast (by kernel_rfl) (iN s4a A4a n4a c4a s4b A4b n4b c4b v13 dM q_13 s_13 g_13 N0_13 N1_13)
    refine .cons rfl (fun K hK=>?_) ?_
    go_simp
    have bJ:=hJ ((Below.refl v.heap.size v).alloc (Nat.le_refl _) (.cells #[.bool false,.slice none 0 0] 33))
    have cR:=hJ (P2.lit v 33 (.bool false) (.slice none 0 0))
    obtain ⟨v14,hV⟩:=nmz (World.alloc v (.cells #[.bool false,.slice none 0 0] 33))
    obtain ⟨gx,hg⟩:=nmz (v.heap.size)
    rw [hV] at bJ cR  ⊢
    rw [hg] at cR  ⊢
    have aN:=hJ (show x3.heap.size≤gx by rw [←hg]; exact aA.out.size)
    have dN:=hJ (bt aA.out bJ.out)
    have q_14:=hJ (PIo.new q_j.out bJ.out)
    have s_14:=hJ (PIo.new s_j.out bJ.out)
    have g_14:=hJ (PIo.new g_j.out bJ.out)
    have N0_14:=hJ (PIo.new N0_j.out bJ.out)
    clear hHeld
    refine hK.out _ _ (aF.out _ dN.out) (fun hHeld=>?_)
    clear hK K hV hg bJ aA q_j s_j g_j N0_j
    try simp only [PT]
    exact wpAnyH_cast (by kernel_rfl) (eO s4a A4a n4a c4a gx v14 dN q_14 s_14 g_14 N0_14 cR (hJ (aN.out)))
    refine .cons rfl (fun K hK=>?_) .nil
    go_simp
    have bK:=hJ ((Below.refl v.heap.size v).alloc (Nat.le_refl _) (.cells #[.bool false,.slice none 0 0] 33))
    have cS:=hJ (P2.lit v 33 (.bool false) (.slice none 0 0))
    obtain ⟨v15,hV⟩:=nmz (World.alloc v (.cells #[.bool false,.slice none 0 0] 33))
    obtain ⟨gy,hg⟩:=nmz (v.heap.size)
    rw [hV] at bK cS  ⊢
    rw [hg] at cS  ⊢
    have aM:=hJ (show x3.heap.size≤gy by rw [←hg]; exact aA.out.size)
    have dO:=hJ (bt aA.out bK.out)
    have q_15:=hJ (PIo.new q_j.out bK.out)
    have s_15:=hJ (PIo.new s_j.out bK.out)
    have g_15:=hJ (PIo.new g_j.out bK.out)
    have N0_15:=hJ (PIo.new N0_j.out bK.out)
    clear hHeld
    refine hK.out _ _ (aF.out _ dO.out) (fun hHeld=>?_)
    clear hK K hV hg bK aA q_j s_j g_j N0_j
    try simp only [PT]
    exact wpAnyH_cast (by kernel_rfl) (eP s4a A4a n4a c4a gy v15 dO q_15 s_15 g_15 N0_15 cS (hJ (aM.out)))
   have J6:∀ (gx:Nat) (v:World),Hid (Below x3.heap.size x3 v)→Hid (PI v s2a A2a n2a c2a (q))→Hid (PI v s2b A2b n2b c2b (s))→Hid (PI v s3 A3 n3 c3 (g))→Hid (P2 33 v gx (.bool false) (.slice none 0 0))→Hid (x3.heap.size≤gx)→F 5 (Array.setIfInBounds L0 6 true) (Act.put a0 (some 9) (.pointer (some ⟨gx,0,none⟩))) v:=by
    intro gx v aA q_j s_j g_j aB aI
    subst hF ha0 hL0
    simp only [PT] at eO eQ ⊢
    have hHeld:=aF.out _ aA.out
    refine ryy [2,7] ?_
    refine .cons rfl (fun K hK=>?_) ?_
    go_simp
    go_at_call_of 95 (#[Value.agg #[.bool s2a,.slice A2a n2a c2a],Value.agg #[.bool s3,.slice A3 n3 c3]])
    refine (fdivided_any q g s2a s3 A2a A3 n2a c2a n3 c3 v (q_j.out) (g_j.out) (by omega) (by omega) aW.out.1).mono ?_
    rintro e v16 ⟨s4a,A4a,n4a,c4a,rfl,hr,hk⟩
    have N0_16:=hJ (hr)
    have bR:=hJ hk
    go_wp2_with fail
    have dP:=hJ (bt aA.out bR.out)
    have q_16:=hJ (PIo.new q_j.out bR.out)
    have s_16:=hJ (PIo.new s_j.out bR.out)
    have g_16:=hJ (PIo.new g_j.out bR.out)
    have gC:=hJ (aB.out.new bR.out)
    clear hHeld
    refine hK.out _ _ (aF.out _ dP.out) (fun hHeld=>?_)
    clear hK K hk bR hr aA q_j s_j g_j aB
    try simp only [PT]
    exact wpAnyH_cast (by kernel_rfl) (eO s4a A4a n4a c4a gx v16 dP q_16 s_16 g_16 N0_16 gC (hJ (aI.out)))
    refine .cons rfl (fun K hK=>?_) .nil
    go_simp
    have bL:=hJ ((Below.refl v.heap.size v).alloc (Nat.le_refl _) (.cells #[.bool false,.slice none 0 0] 33))
    have cT:=hJ (P2.lit v 33 (.bool false) (.slice none 0 0))
    obtain ⟨v17,hV⟩:=nmz (World.alloc v (.cells #[.bool false,.slice none 0 0] 33))
    obtain ⟨gy,hg⟩:=nmz (v.heap.size)
    rw [hV] at bL cT  ⊢
    rw [hg] at cT  ⊢
    have aM:=hJ (show x3.heap.size≤gy by rw [←hg]; exact aA.out.size)
    have bX:=hJ (show gx≠gy by have:=aB.out.lt; rw [hg] at this; omega)
    have dQ:=hJ (bt aA.out bL.out)
    have q_17:=hJ (PIo.new q_j.out bL.out)
    have s_17:=hJ (PIo.new s_j.out bL.out)
    have g_17:=hJ (PIo.new g_j.out bL.out)
    have gE:=hJ (aB.out.new bL.out)
    clear hHeld
    refine hK.out _ _ (aF.out _ dQ.out) (fun hHeld=>?_)
    clear hK K hV hg bL aA q_j s_j g_j aB
    try simp only [PT]
    exact wpAnyH_cast (by kernel_rfl) (eQ gx gy v17 dQ q_17 s_17 g_17 gE (hJ (aI.out)) cT (hJ (aM.out)) (hJ (bX.out)))
   have J7:∀ (gy:Nat) (v:World),Hid (Below x3.heap.size x3 v)→Hid (PI v s2a A2a n2a c2a (q))→Hid (PI v s2b A2b n2b c2b (s))→Hid (PI v s3 A3 n3 c3 (g))→Hid (P2 33 v gy (.bool false) (.slice none 0 0))→Hid (x3.heap.size≤gy)→F 5 (Array.setIfInBounds L0 7 true) (Act.put a0 (some 10) (.pointer (some ⟨gy,0,none⟩))) v:=by
    intro gy v aA q_j s_j g_j aC aJ
    subst hF ha0 hL0
    simp only [PT] at eP eQ ⊢
    have hHeld:=aF.out _ aA.out
    refine ryy [2,6] ?_
    refine .cons rfl (fun K hK=>?_) ?_
    go_simp
    go_at_call_of 95 (#[Value.agg #[.bool s2a,.slice A2a n2a c2a],Value.agg #[.bool s3,.slice A3 n3 c3]])
    refine (fdivided_any q g s2a s3 A2a A3 n2a c2a n3 c3 v (q_j.out) (g_j.out) (by omega) (by omega) aW.out.1).mono ?_
    rintro e v18 ⟨s4a,A4a,n4a,c4a,rfl,hr,hk⟩
    have N0_18:=hJ (hr)
    have bS:=hJ hk
    go_wp2_with fail
    have dR:=hJ (bt aA.out bS.out)
    have q_18:=hJ (PIo.new q_j.out bS.out)
    have s_18:=hJ (PIo.new s_j.out bS.out)
    have g_18:=hJ (PIo.new g_j.out bS.out)
    have gF:=hJ (aC.out.new bS.out)
    clear hHeld
    refine hK.out _ _ (aF.out _ dR.out) (fun hHeld=>?_)
    clear hK K hk bS hr aA q_j s_j g_j aC
    try simp only [PT]
    exact wpAnyH_cast (by kernel_rfl) (eP s4a A4a n4a c4a gy v18 dR q_18 s_18 g_18 N0_18 gF (hJ (aJ.out)))
    refine .cons rfl (fun K hK=>?_) .nil
    go_simp
    have bM:=hJ ((Below.refl v.heap.size v).alloc (Nat.le_refl _) (.cells #[.bool false,.slice none 0 0] 33))
    have cU:=hJ (P2.lit v 33 (.bool false) (.slice none 0 0))
    obtain ⟨v19,hV⟩:=nmz (World.alloc v (.cells #[.bool false,.slice none 0 0] 33))
    obtain ⟨gx,hg⟩:=nmz (v.heap.size)
    rw [hV] at bM cU  ⊢
    rw [hg] at cU  ⊢
    have aN:=hJ (show x3.heap.size≤gx by rw [←hg]; exact aA.out.size)
    have bY:=hJ (show gy≠gx by have:=aC.out.lt; rw [hg] at this; omega)
    have dS:=hJ (bt aA.out bM.out)
    have q_19:=hJ (PIo.new q_j.out bM.out)
    have s_19:=hJ (PIo.new s_j.out bM.out)
    have g_19:=hJ (PIo.new g_j.out bM.out)
    have gG:=hJ (aC.out.new bM.out)
    clear hHeld
    refine hK.out _ _ (aF.out _ dS.out) (fun hHeld=>?_)
    clear hK K hV hg bM aA q_j s_j g_j aC
    try simp only [PT]
    exact wpAnyH_cast (by kernel_rfl) (eQ gx gy v19 dS q_19 s_19 g_19 cU (hJ (aN.out)) gG (hJ (aJ.out)) (hJ (bY.out.symm)))
   subst hF ha0 hL0
   simp only [PT] at J2 J6 J7
   refine ryy [2,6,7] ?_
   refine .cons rfl (fun K hK=>?_) ?_
   go_simp
   go_at_call_of 95 (#[Value.agg #[.bool s2a,.slice A2a n2a c2a],Value.agg #[.bool s3,.slice A3 n3 c3]])
   refine (fdivided_any q g s2a s3 A2a A3 n2a c2a n3 c3 v0 (q_0.out) (g_0.out) (by omega) (by omega) aW.out.1).mono ?_
   rintro e v20 ⟨s4a,A4a,n4a,c4a,rfl,hr,hk⟩
   have N0_20:=hJ (hr)
   have bZ:=hJ hk
   go_wp2_with fail
   have dT:=hJ (bt aG.out bZ.out)
   have q_20:=hJ (PIo.new q_0.out bZ.out)
   have s_20:=hJ (PIo.new s_0.out bZ.out)
   have g_20:=hJ (PIo.new g_0.out bZ.out)
   clear hHeld
   refine hK.out _ _ (aF.out _ dT.out) (fun hHeld=>?_)
   clear hK K hk bZ hr aG q_0 s_0 g_0
   try simp only [PT]
   exact wpAnyH_cast (by kernel_rfl) (J2 s4a A4a n4a c4a v20 dT q_20 s_20 g_20 N0_20)
   refine .cons rfl (fun K hK=>?_) ?_
   go_simp
   have bT:=hJ ((Below.refl v0.heap.size v0).alloc (Nat.le_refl _) (.cells #[.bool false,.slice none 0 0] 33))
   have cV:=hJ (P2.lit v0 33 (.bool false) (.slice none 0 0))
   obtain ⟨v21,hV⟩:=nmz (World.alloc v0 (.cells #[.bool false,.slice none 0 0] 33))
   obtain ⟨gx,hg⟩:=nmz (v0.heap.size)
   rw [hV] at bT cV  ⊢
   rw [hg] at cV  ⊢
   have aN:=hJ (show x3.heap.size≤gx by rw [←hg]; exact aG.out.size)
   have dU:=hJ (bt aG.out bT.out)
   have q_21:=hJ (PIo.new q_0.out bT.out)
   have s_21:=hJ (PIo.new s_0.out bT.out)
   have g_21:=hJ (PIo.new g_0.out bT.out)
   clear hHeld
   refine hK.out _ _ (aF.out _ dU.out) (fun hHeld=>?_)
   clear hK K hV hg bT aG q_0 s_0 g_0
   try simp only [PT]
   exact wpAnyH_cast (by kernel_rfl) (J6 gx v21 dU q_21 s_21 g_21 cV (hJ (aN.out)))
   refine .cons rfl (fun K hK=>?_) .nil
   go_simp
   have bU:=hJ ((Below.refl v0.heap.size v0).alloc (Nat.le_refl _) (.cells #[.bool false,.slice none 0 0] 33))
   have cW:=hJ (P2.lit v0 33 (.bool false) (.slice none 0 0))
   obtain ⟨v22,hV⟩:=nmz (World.alloc v0 (.cells #[.bool false,.slice none 0 0] 33))
   obtain ⟨gy,hg⟩:=nmz (v0.heap.size)
   rw [hV] at bU cW  ⊢
   rw [hg] at cW  ⊢
   have aM:=hJ (show x3.heap.size≤gy by rw [←hg]; exact aG.out.size)
   have dW:=hJ (bt aG.out bU.out)
   have q_22:=hJ (PIo.new q_0.out bU.out)
   have s_22:=hJ (PIo.new s_0.out bU.out)
   have g_22:=hJ (PIo.new g_0.out bU.out)
   clear hHeld
   refine hK.out _ _ (aF.out _ dW.out) (fun hHeld=>?_)
   clear hK K hV hg bU aG q_0 s_0 g_0
   try simp only [PT]
   exact wpAnyH_cast (by kernel_rfl) (J7 gy v22 dW q_22 s_22 g_22 cW (hJ (aM.out)))
  case rest =>
   obtain ⟨G4,H4,s4a,A4a,n4a,c4a,s4b,A4b,n4b,c4b,rfl,rfl,hq1,hq2,hr1,hr2,hbx⟩:=hcut
   have iO:=hJ hq1
   have gL:=hJ hq2
   have eR:=hJ hr1
   have dX:=hJ hr2
   have bN:=hJ hbx
   obtain ⟨x4,rfl⟩:=nm_world hbx
   clear hq1 hq2 hr1 hr2 hbx aF iM
   have hn4a:n4a≤512:=plim eR.out (by rw [cH.out.2.1]; exact aW.out.2.2.1)
   have hn4b:n4b≤512:=plim dX.out (by rw [cH.out.2.2]; exact aW.out.2.2.2)
   have gM:=hJ (iF.out.new bN.out)
   have iP:=hJ (iG.out.new bN.out)
   have iQ:=hJ (iH.out.new bN.out)
   have iR:=hJ (iI.out.new bN.out)
   have iS:=hJ (iJ.out.new bN.out)
   have iT:=hJ (iK.out.new bN.out)
   have iU:=hJ (eK.out.new bN.out)
   have iV:=hJ (PIo.new gJ.out bN.out)
   have iW:=hJ (eL.out.new bN.out)
   have iX:=hJ (PIo.new gK.out bN.out)
   have iY:=hJ (eI.out.new bN.out)
   have iZ:=hJ (PIo.new eJ.out bN.out)
   have jA:=hJ (bt iL.out bN.out)
   clear iF iG iH iI iJ iK eK gJ eL gK eI eJ iL bN
   rw [cH.out.2.1] at eR
   rw [cH.out.2.2] at dX
   obtain ⟨cla0_4,cla1_4,cla2_4,cla3_4⟩:=gM.out.cells
   obtain ⟨clsp0_5,clsp1_5⟩:=gL.out.cells
   obtain ⟨x5,gO⟩:=nmz (x4.alloc (.cells #[.bool s4b,.slice A4b n4b c4b] 33))
   have aX:=hJ (show Below x4.heap.size x4 x5 by rw [←gO]; exact (Below.refl _ _).alloc (Nat.le_refl _) _)
   have jB:=hJ (show Pel x5 x4.heap.size [sp]∧x4.heap.size < x5.heap.size by rw [←gO]; exact ⟨pel_lit1 dX.out aW.out.2.2.2,by simp⟩)
   have jC:=hJ (gM.out.new aX.out)
   have gP:=hJ (iP.out.new aX.out)
   have jD:=hJ (iQ.out.new aX.out)
   have jE:=hJ (iR.out.new aX.out)
   have jF:=hJ (iS.out.new aX.out)
   have jG:=hJ (iT.out.new aX.out)
   have jH:=hJ (iU.out.new aX.out)
   have jI:=hJ (PIo.new iV.out aX.out)
   have jJ:=hJ (iW.out.new aX.out)
   have jK:=hJ (PIo.new iX.out aX.out)
   have jL:=hJ (iY.out.new aX.out)
   have jM:=hJ (PIo.new iZ.out aX.out)
   have jN:=hJ (iO.out.new aX.out)
   have jO:=hJ (PIo.new eR.out aX.out)
   have jP:=hJ (gL.out.new aX.out)
   have jQ:=hJ (PIo.new dX.out aX.out)
   have jR:=hJ (bt jA.out aX.out)
   clear gM iP iQ iR iS iT iU iV iW iX iY iZ iO eR gL dX jA aX
   go_wp2_with fail
   refine (fproduct_any [sp] p sa Aa na ca x4.heap.size 1 x5 (gP.out.1) aZ.out.2.2.1 jB.out.1 jB.out.2 rfl (by decide)).mono ?_
   rw [(pv_one (p) (sp)).1,(pv_one (p) (sp)).2]
   rintro e w6 ⟨s6,A6,n6,c6,rfl,hr6,hb6⟩
   obtain ⟨x6,eS⟩:=nmz (w6.alloc (.cells #[.bool s6,.slice A6 n6 c6] 33))
   have aY:=hJ (show Below x5.heap.size x5 x6 by rw [←eS]; exact hb6.alloc hb6.size _)
   have jS:=hJ (show P2 33 x6 w6.heap.size (.bool s6) (.slice A6 n6 c6) by rw [←eS]; exact P2.lit _ _ _ _)
   have jT:=hJ (show PI x6 s6 A6 n6 c6 (outV (p*sp)) by rw [←eS]; exact PIo.new hr6 ((Below.refl _ _).alloc (Nat.le_refl _) _))
   have hn6:n6≤512:=plim hr6 (outV_lim _)
   clear hr6 hb6
   have jU:=hJ (jC.out.new aY.out)
   have jV:=hJ (gP.out.new aY.out)
   have gQ:=hJ (jD.out.new aY.out)
   have jW:=hJ (jE.out.new aY.out)
   have jX:=hJ (jF.out.new aY.out)
   have jY:=hJ (jG.out.new aY.out)
   have jZ:=hJ (jH.out.new aY.out)
   have kA:=hJ (PIo.new jI.out aY.out)
   have kB:=hJ (jJ.out.new aY.out)
   have kC:=hJ (PIo.new jK.out aY.out)
   have kD:=hJ (jL.out.new aY.out)
   have kE:=hJ (PIo.new jM.out aY.out)
   have gR:=hJ (jN.out.new aY.out)
   have gT:=hJ (PIo.new jO.out aY.out)
   have kF:=hJ (jP.out.new aY.out)
   have kG:=hJ (PIo.new jQ.out aY.out)
   have kH:=hJ (bt jR.out aY.out)
   clear jC gP jD jE jF jG jH jI jJ jK jL jM jN jO jP jQ jR cla0_4 cla1_4 cla2_4 cla3_4 clsp0_5 clsp1_5 gO aY
   obtain ⟨clb0_6,clb1_6,clb2_6,clb3_6⟩:=gQ.out.cells
   obtain ⟨clqp0_7,clqp1_7⟩:=gR.out.cells
   obtain ⟨x7,gU⟩:=nmz (x6.alloc (.cells #[.bool s4a,.slice A4a n4a c4a] 33))
   have aT:=hJ (show Below x6.heap.size x6 x7 by rw [←gU]; exact (Below.refl _ _).alloc (Nat.le_refl _) _)
   have kI:=hJ (show Pel x7 x6.heap.size [qp]∧x6.heap.size < x7.heap.size by rw [←gU]; exact ⟨pel_lit1 gT.out aW.out.2.2.1,by simp⟩)
   have kJ:=hJ (jU.out.new aT.out)
   have kK:=hJ (jV.out.new aT.out)
   have kL:=hJ (gQ.out.new aT.out)
   have gV:=hJ (jW.out.new aT.out)
   have kM:=hJ (jX.out.new aT.out)
   have kN:=hJ (jY.out.new aT.out)
   have kO:=hJ (jZ.out.new aT.out)
   have kP:=hJ (PIo.new kA.out aT.out)
   have kQ:=hJ (kB.out.new aT.out)
   have kR:=hJ (PIo.new kC.out aT.out)
   have kS:=hJ (kD.out.new aT.out)
   have kT:=hJ (PIo.new kE.out aT.out)
   have kU:=hJ (gR.out.new aT.out)
   have kV:=hJ (PIo.new gT.out aT.out)
   have kW:=hJ (kF.out.new aT.out)
   have kX:=hJ (PIo.new kG.out aT.out)
   have kY:=hJ (jS.out.new aT.out)
   have kZ:=hJ (PIo.new jT.out aT.out)
   have lA:=hJ (bt kH.out aT.out)
   clear jU jV gQ jW jX jY jZ kA kB kC kD kE gR gT kF kG jS jT kH aT
   go_wp2_with fail
   refine (fproduct_any [qp] r sd Ad nd cd x6.heap.size 1 x7 (gV.out.1) aZ.out.2.2.2.2.1 kI.out.1 kI.out.2 rfl (by decide)).mono ?_
   rw [(pv_one (r) (qp)).1,(pv_one (r) (qp)).2]
   rintro e w8 ⟨s8,A8,n8,c8,rfl,hr8,hb8⟩
   obtain ⟨x8,eT⟩:=nmz (w8.alloc (.cells #[.bool s8,.slice A8 n8 c8] 33))
   have aU:=hJ (show Below x7.heap.size x7 x8 by rw [←eT]; exact hb8.alloc hb8.size _)
   have lB:=hJ (show P2 33 x8 w8.heap.size (.bool s8) (.slice A8 n8 c8) by rw [←eT]; exact P2.lit _ _ _ _)
   have lC:=hJ (show PI x8 s8 A8 n8 c8 (outV (r*qp)) by rw [←eT]; exact PIo.new hr8 ((Below.refl _ _).alloc (Nat.le_refl _) _))
   have hn8:n8≤512:=plim hr8 (outV_lim _)
   clear hr8 hb8
   have lD:=hJ (kJ.out.new aU.out)
   have lE:=hJ (kK.out.new aU.out)
   have lF:=hJ (kL.out.new aU.out)
   have lG:=hJ (gV.out.new aU.out)
   have lH:=hJ (kM.out.new aU.out)
   have lI:=hJ (kN.out.new aU.out)
   have lJ:=hJ (kO.out.new aU.out)
   have lK:=hJ (PIo.new kP.out aU.out)
   have gW:=hJ (kQ.out.new aU.out)
   have gX:=hJ (PIo.new kR.out aU.out)
   have lL:=hJ (kS.out.new aU.out)
   have lM:=hJ (PIo.new kT.out aU.out)
   have gY:=hJ (kU.out.new aU.out)
   have lN:=hJ (PIo.new kV.out aU.out)
   have lO:=hJ (kW.out.new aU.out)
   have lP:=hJ (PIo.new kX.out aU.out)
   have lQ:=hJ (kY.out.new aU.out)
   have lR:=hJ (PIo.new kZ.out aU.out)
   have lS:=hJ (bt lA.out aU.out)
   clear kJ kK kL gV kM kN kO kP kQ kR kS kT kU kV kW kX kY kZ lA eS clb0_6 clb1_6 clb2_6 clb3_6 clqp0_7 clqp1_7 gU aU
   obtain ⟨clqp0_8,clqp1_8⟩:=gY.out.cells
   obtain ⟨cls0_9,cls1_9⟩:=gW.out.cells
   obtain ⟨x9,gZ⟩:=nmz (x8.alloc (.cells #[.bool s2b,.slice A2b n2b c2b] 33))
   have aR:=hJ (show Below x8.heap.size x8 x9 by rw [←gZ]; exact (Below.refl _ _).alloc (Nat.le_refl _) _)
   have lT:=hJ (show Pel x9 x8.heap.size [s]∧x8.heap.size < x9.heap.size by rw [←gZ]; exact ⟨pel_lit1 gX.out aZ.out.2.2.2.2.2,by simp⟩)
   have lU:=hJ (lD.out.new aR.out)
   have lV:=hJ (lE.out.new aR.out)
   have lW:=hJ (lF.out.new aR.out)
   have lX:=hJ (lG.out.new aR.out)
   have lY:=hJ (lH.out.new aR.out)
   have lZ:=hJ (lI.out.new aR.out)
   have mA:=hJ (lJ.out.new aR.out)
   have mB:=hJ (PIo.new lK.out aR.out)
   have mC:=hJ (gW.out.new aR.out)
   have mD:=hJ (PIo.new gX.out aR.out)
   have mE:=hJ (lL.out.new aR.out)
   have mF:=hJ (PIo.new lM.out aR.out)
   have mG:=hJ (gY.out.new aR.out)
   have hA:=hJ (PIo.new lN.out aR.out)
   have mH:=hJ (lO.out.new aR.out)
   have mI:=hJ (PIo.new lP.out aR.out)
   have mJ:=hJ (lQ.out.new aR.out)
   have mK:=hJ (PIo.new lR.out aR.out)
   have mL:=hJ (lB.out.new aR.out)
   have mM:=hJ (PIo.new lC.out aR.out)
   have mN:=hJ (bt lS.out aR.out)
   clear lD lE lF lG lH lI lJ lK gW gX lL lM gY lN lO lP lQ lR lB lC lS aR
   go_wp2_with fail
   refine (fproduct_any [s] qp s4a A4a n4a c4a x8.heap.size 1 x9 (hA.out) aW.out.2.2.1 lT.out.1 lT.out.2 rfl (by decide)).mono ?_
   rw [(pv_one (qp) (s)).1,(pv_one (qp) (s)).2]
   rintro e w10 ⟨s10,A10,n10,c10,rfl,hr10,hb10⟩
   obtain ⟨x10,eU⟩:=nmz (w10.alloc (.cells #[.bool s10,.slice A10 n10 c10] 33))
   have aS:=hJ (show Below x9.heap.size x9 x10 by rw [←eU]; exact hb10.alloc hb10.size _)
   have mO:=hJ (show P2 33 x10 w10.heap.size (.bool s10) (.slice A10 n10 c10) by rw [←eU]; exact P2.lit _ _ _ _)
   have mP:=hJ (show PI x10 s10 A10 n10 c10 (outV (qp*s)) by rw [←eU]; exact PIo.new hr10 ((Below.refl _ _).alloc (Nat.le_refl _) _))
   have hn10:n10≤512:=plim hr10 (outV_lim _)
   clear hr10 hb10
   have mQ:=hJ (lU.out.new aS.out)
   have mR:=hJ (lV.out.new aS.out)
   have mS:=hJ (lW.out.new aS.out)
   have mT:=hJ (lX.out.new aS.out)
   have mU:=hJ (lY.out.new aS.out)
   have mV:=hJ (lZ.out.new aS.out)
   have mW:=hJ (mA.out.new aS.out)
   have mX:=hJ (PIo.new mB.out aS.out)
   have mY:=hJ (mC.out.new aS.out)
   have mZ:=hJ (PIo.new mD.out aS.out)
   have nA:=hJ (mE.out.new aS.out)
   have nB:=hJ (PIo.new mF.out aS.out)
   have nC:=hJ (mG.out.new aS.out)
   have nD:=hJ (PIo.new hA.out aS.out)
   have nE:=hJ (mH.out.new aS.out)
   have nF:=hJ (PIo.new mI.out aS.out)
   have hB:=hJ (mJ.out.new aS.out)
   have hC:=hJ (PIo.new mK.out aS.out)
   have hE:=hJ (mL.out.new aS.out)
   have hG:=hJ (PIo.new mM.out aS.out)
   have nG:=hJ (bt mN.out aS.out)
   clear lU lV lW lX lY lZ mA mB mC mD mE mF mG hA mH mI mJ mK mL mM mN eT clqp0_8 clqp1_8 cls0_9 cls1_9 gZ aS
   obtain ⟨clleft0_11,clleft1_11⟩:=hB.out.cells
   obtain ⟨clright0_11,clright1_11⟩:=hE.out.cells
   go_wp2_with fail
   refine (padd_any (outV (p*sp)) (outV (r*qp)) s6 s8 A6 A8 n6 c6 n8 c8 x10 hC.out hG.out (by omega) (by omega) (outV_lim _) (outV_lim _)).mono ?_
   rintro e w11 ⟨s11,A11,n11,c11,rfl,hr11,hb11⟩
   obtain ⟨x11,eV⟩:=nmz (w11.alloc (.cells #[.bool s11,.slice A11 n11 c11] 33))
   have aL:=hJ (show Below x10.heap.size x10 x11 by rw [←eV]; exact hb11.alloc hb11.size _)
   have nH:=hJ (show P2 33 x11 w11.heap.size (.bool s11) (.slice A11 n11 c11) by rw [←eV]; exact P2.lit _ _ _ _)
   have nJ:=hJ (show PI x11 s11 A11 n11 c11 (outV (outV (p*sp)+outV (r*qp))) by rw [←eV]; exact PIo.new hr11 ((Below.refl _ _).alloc (Nat.le_refl _) _))
   have hn11:n11≤512:=plim hr11 (outV_lim _)
   clear hr11 hb11
   have nK:=hJ (mQ.out.new aL.out)
   have nL:=hJ (mR.out.new aL.out)
   have nM:=hJ (mS.out.new aL.out)
   have nN:=hJ (mT.out.new aL.out)
   have nO:=hJ (mU.out.new aL.out)
   have nP:=hJ (mV.out.new aL.out)
   have nQ:=hJ (mW.out.new aL.out)
   have nR:=hJ (PIo.new mX.out aL.out)
   have nS:=hJ (mY.out.new aL.out)
   have nT:=hJ (PIo.new mZ.out aL.out)
   have nU:=hJ (nA.out.new aL.out)
   have nV:=hJ (PIo.new nB.out aL.out)
   have nW:=hJ (nC.out.new aL.out)
   have nX:=hJ (PIo.new nD.out aL.out)
   have nY:=hJ (nE.out.new aL.out)
   have nZ:=hJ (PIo.new nF.out aL.out)
   have oA:=hJ (hB.out.new aL.out)
   have oB:=hJ (PIo.new hC.out aL.out)
   have oC:=hJ (hE.out.new aL.out)
   have oD:=hJ (PIo.new hG.out aL.out)
   have oE:=hJ (mO.out.new aL.out)
   have oF:=hJ (PIo.new mP.out aL.out)
   have oG:=hJ (bt nG.out aL.out)
   clear mQ mR mS mT mU mV mW mX mY mZ nA nB nC nD nE nF hB hC hE hG mO mP nG eU clleft0_11 clleft1_11 clright0_11 clright1_11 aL
   obtain ⟨x12,hI⟩:=nmz (x11.alloc (.cells #[.int .i64 (outC (p*sp)),.int .i64 (outC (r*qp)),.int .i64 (outC (outV (p*sp)+outV (r*qp))),.int .i64 (outC (qp*s))] 40))
   have aK:=hJ (show Below x11.heap.size x11 x12 by rw [←hI]; exact (Below.refl _ _).alloc (Nat.le_refl _) _)
   have oS:=hJ (show Codes x12 x11.heap.size [outC (p*sp),outC (r*qp),outC (outV (p*sp)+outV (r*qp)),outC (qp*s)] by rw [←hI]; exact codes_lit4 _ _ _ _)
   have oT:=hJ (nK.out.new aK.out)
   have oU:=hJ (nL.out.new aK.out)
   have oV:=hJ (nM.out.new aK.out)
   have oW:=hJ (nN.out.new aK.out)
   have cD:=hJ (nO.out.new aK.out)
   have oX:=hJ (nP.out.new aK.out)
   have oY:=hJ (nQ.out.new aK.out)
   have oZ:=hJ (PIo.new nR.out aK.out)
   have pA:=hJ (nS.out.new aK.out)
   have pB:=hJ (PIo.new nT.out aK.out)
   have oH:=hJ (nU.out.new aK.out)
   have oI:=hJ (PIo.new nV.out aK.out)
   have pC:=hJ (nW.out.new aK.out)
   have pD:=hJ (PIo.new nX.out aK.out)
   have pE:=hJ (nY.out.new aK.out)
   have pF:=hJ (PIo.new nZ.out aK.out)
   have pG:=hJ (oA.out.new aK.out)
   have pH:=hJ (PIo.new oB.out aK.out)
   have pI:=hJ (oC.out.new aK.out)
   have pJ:=hJ (PIo.new oD.out aK.out)
   have oJ:=hJ (oE.out.new aK.out)
   have eW:=hJ (PIo.new oF.out aK.out)
   have hL:=hJ (nH.out.new aK.out)
   have dY:=hJ (PIo.new nJ.out aK.out)
   have hM:=hJ (bt oG.out aK.out)
   clear nK nL nM nN nO nP nQ nR nS nT nU nV nW nX nY nZ oA oB oC oD oE oF nH nJ oG aK
   go_wp2_with fail
   refine (ferror_any [outC (p*sp),outC (r*qp),outC (outV (p*sp)+outV (r*qp)),outC (qp*s)] x11.heap.size 4 x12 oS.out rfl (by decide)).mono ?_
   have dZ:=hJ (ad_codes (p:=p) (r:=r) cH.out.1 cH.out.2.1 cH.out.2.2 aW.out.1 aW.out.2.1)
   obtain ⟨u,hu⟩:∃ u,feV [outC (p*sp),outC (r*qp),outC (outV (p*sp)+outV (r*qp)),outC (qp*s)]=u:=⟨_,rfl⟩
   rw [hu] at dZ ⊢
   clear hu
   rintro e w' ⟨rfl,rfl⟩
   by_cases hu:u=0
   ·have HE:=hJ (dZ.out.1 hu)
    subst hu
    clear dZ
    rw [HE.out.1] at dY
    rw [HE.out.2.1] at eW
    obtain ⟨N,hN⟩:∃ x,adN p q r s=x:=⟨_,rfl⟩
    obtain ⟨D,hD⟩:∃ x,adD q s=x:=⟨_,rfl⟩
    rw [hN] at dY HE
    rw [hD] at eW HE
    have oK:=hJ (And.intro hN hD)
    clear hN hD
    clear oU oT oW oV oZ oY pB pA pD pC pF pE pH pG pJ pI
    obtain ⟨clnum0_14,clnum1_14⟩:=hL.out.cells
    obtain ⟨clg0_14,clg1_14⟩:=oH.out.cells
    go_wp2_with fail
    refine (fcommon_any N g s11 s3 A11 A3 n11 c11 n3 c3 x12 dY.out oI.out (by omega) (by omega)).mono ?_
    rintro e w14 ⟨s14,A14,n14,c14,rfl,hr14,hb14⟩
    obtain ⟨x14,eX⟩:=nmz (w14.alloc (.cells #[.bool s14,.slice A14 n14 c14] 33))
    have cX:=hJ (show Below x12.heap.size x12 x14 by rw [←eX]; exact hb14.alloc hb14.size _)
    have hO:=hJ (show P2 33 x14 w14.heap.size (.bool s14) (.slice A14 n14 c14) by rw [←eX]; exact P2.lit _ _ _ _)
    have oL:=hJ (show PI x14 s14 A14 n14 c14 (((Nat.gcd N.natAbs g.natAbs:Nat):Int)) by rw [←eX]; exact PIo.new hr14 ((Below.refl _ _).alloc (Nat.le_refl _) _))
    have hn14:n14≤512:=plim hr14 HE.out.2.2.2.2.1
    clear hr14 hb14
    have eY:=hJ (cD.out.new cX.out)
    have hP:=hJ (oJ.out.new cX.out)
    have pK:=hJ (PIo.new eW.out cX.out)
    have hQ:=hJ (hL.out.new cX.out)
    have pL:=hJ (PIo.new dY.out cX.out)
    have pM:=hJ (bt hM.out cX.out)
    clear cD oX oH oI oJ eW hL dY hM eV hI clnum0_14 clnum1_14 clg0_14 clg1_14 cX
    have eZ:=hJ HE.out.2.2.2.2
    obtain ⟨H,hH⟩:∃ x,((Nat.gcd N.natAbs g.natAbs:Nat):Int)=x:=⟨_,rfl⟩
    rw [hH] at oL eZ
    have pN:=hJ hH
    clear hH
    obtain ⟨gN,hgN⟩:∃ g,w11.heap.size=g:=⟨_,rfl⟩
    obtain ⟨gD,hgD⟩:∃ g,w10.heap.size=g:=⟨_,rfl⟩
    obtain ⟨gS,hgS⟩:∃ g,w14.heap.size=g:=⟨_,rfl⟩
    rw [hgN] at hQ
    rw [hgD] at hP
    rw [hgS] at hO
    have hR:=hJ (show gN≠h+1+1∧gD≠h+1+1∧gS≠h+1+1 from ⟨P2_ne_P4 hQ.out eY.out,P2_ne_P4 hP.out eY.out,P2_ne_P4 hO.out eY.out⟩)
    go_upto_region 12 with fail
    clear hgN hgD hgS eX
    have hS:=hJ (ad_ok HE.out.2.2.1 HE.out.2.2.2.1 oK.out.1 oK.out.2 cH.out.1 pN.out)
    obtain ⟨v0,hv0⟩:=nmz (World.drew x14)
    have aG:=hJ (show Below x14.heap.size x14 v0 by rw [←hv0]; exact (Below.refl _ _).drew)
    have cK:=hJ (bt pM.out aG.out)
    have num_0:=hJ (PIo.new pL.out aG.out)
    have den_0:=hJ (PIo.new pK.out aG.out)
    have sh_0:=hJ (PIo.new oL.out aG.out)
    have fA:=hJ (hQ.out.new aG.out)
    have fB:=hJ (hP.out.new aG.out)
    have fC:=hJ (hO.out.new aG.out)
    have oM:=hJ (eY.out.new aG.out)
    refine wp_region_held_drew (S:=(fun w':World=>w'.cell? ⟨gN,0,none⟩=some (.bool s11)∧w'.cell? ⟨gN,1,none⟩=some (.slice A11 n11 c11)∧w'.cell? ⟨gD,0,none⟩=some (.bool s10)∧w'.cell? ⟨gD,1,none⟩=some (.slice A10 n10 c10)∧w'.cell? ⟨gS,0,none⟩=some (.bool s14)∧w'.cell? ⟨gS,1,none⟩=some (.slice A14 n14 c14)∧Below w.heap.size w w')) (by kernel_rfl) ?_ (fun hHeld=>?_)
    ·rw [hv0]
     exact ⟨fA.out.cells.1,fA.out.cells.2,fB.out.cells.1,fB.out.cells.2,fC.out.cells.1,fC.out.cells.2,cK.out⟩
    rw [hv0] at hHeld ⊢
    clear hv0 aG
    refine tq 0 ?_
    refine tq 1 ?_
    refine tq 3 ?_
    refine tq 4 ?_
    try simp only [PT]
    refine ryy [2] ?_
    refine .cons rfl (fun K hK=>?_) .nil
    go_simp
    go_at_call_of 95 (#[Value.agg #[.bool s11,.slice A11 n11 c11],Value.agg #[.bool s14,.slice A14 n14 c14]])
    refine (fdivided_any N H s11 s14 A11 A14 n11 c11 n14 c14 v0 (num_0.out) (sh_0.out) (by omega) (by omega) eZ.out.2.1).mono ?_
    rintro e v1 ⟨t5,T5,m5,d5,rfl,hr,hk⟩
    have R5_1:=hJ (hr)
    have cE:=hJ hk
    go_wp2_with fail
    have bW:=hJ (bt cK.out cE.out)
    have num_1:=hJ (PIo.new num_0.out cE.out)
    have den_1:=hJ (PIo.new den_0.out cE.out)
    have sh_1:=hJ (PIo.new sh_0.out cE.out)
    have fD:=hJ (fA.out.new cE.out)
    have fE:=hJ (fB.out.new cE.out)
    have fF:=hJ (fC.out.new cE.out)
    have oN:=hJ (oM.out.new cE.out)
    clear hHeld
    refine hK.out _ _ (⟨fD.out.cells.1,fD.out.cells.2,fE.out.cells.1,fE.out.cells.2,fF.out.cells.1,fF.out.cells.2,bW.out⟩) (fun hHeld=>?_)
    clear hK K hk cE hr cK num_0 den_0 sh_0 fA fB fC oM
    try simp only [PT]
    refine ryy [5] ?_
    refine .cons rfl (fun K hK=>?_) .nil
    go_simp
    go_at_call_of 95 (#[Value.agg #[.bool s10,.slice A10 n10 c10],Value.agg #[.bool s14,.slice A14 n14 c14]])
    refine (fdivided_any D H s10 s14 A10 A14 n10 c10 n14 c14 v1 (den_1.out) (sh_1.out) (by omega) (by omega) eZ.out.2.1).mono ?_
    rintro e v2 ⟨t6,T6,m6,d6,rfl,hr,hk⟩
    have R6_2:=hJ (hr)
    have cA:=hJ hk
    go_wp2_with fail
    have cB:=hJ (bt bW.out cA.out)
    have num_2:=hJ (PIo.new num_1.out cA.out)
    have den_2:=hJ (PIo.new den_1.out cA.out)
    have sh_2:=hJ (PIo.new sh_1.out cA.out)
    have R5_2:=hJ (PIo.new R5_1.out cA.out)
    have fG:=hJ (fD.out.new cA.out)
    have fH:=hJ (fE.out.new cA.out)
    have fI:=hJ (fF.out.new cA.out)
    have oO:=hJ (oN.out.new cA.out)
    clear hHeld
    refine hK.out _ _ (⟨fG.out.cells.1,fG.out.cells.2,fH.out.cells.1,fH.out.cells.2,fI.out.cells.1,fI.out.cells.2,cB.out⟩) (fun hHeld=>?_)
    clear hK K hk cA hr bW num_1 den_1 sh_1 R5_1 fD fE fF oN
    try simp only [PT]
    refine ryy [6] ?_
    refine .cons rfl (fun K hK=>?_) .nil
    go_simp
    go_at_call 96
    refine (flowest_any (N / H) (D / H) t5 t6 T5 T6 m5 d5 m6 d6 v2 (R5_2.out) (R6_2.out) (by have:=plim R6_2.out eZ.out.2.2.2; omega)).mono ?_
    rintro e v3 ⟨t7,T7,m7,d7,t8,T8,m8,d8,rfl,hr,hk⟩
    have R7_3:=hJ (hr)
    have aH:=hJ hk
    go_wp2_with fail
    have cC:=hJ (bt cB.out aH.out)
    have num_3:=hJ (PIo.new num_2.out aH.out)
    have den_3:=hJ (PIo.new den_2.out aH.out)
    have sh_3:=hJ (PIo.new sh_2.out aH.out)
    have R5_3:=hJ (PIo.new R5_2.out aH.out)
    have R6_3:=hJ (PIo.new R6_2.out aH.out)
    have fJ:=hJ (fG.out.new aH.out)
    have fK:=hJ (fH.out.new aH.out)
    have fL:=hJ (fI.out.new aH.out)
    have bO:=hJ (oO.out.new aH.out)
    clear hHeld
    refine hK.out _ _ (⟨fJ.out.cells.1,fJ.out.cells.2,fK.out.cells.1,fK.out.cells.2,fL.out.cells.1,fL.out.cells.2,cC.out⟩) (fun hHeld=>?_)
    clear hK K hk aH hr cB num_2 den_2 sh_2 R5_2 R6_2 fG fH fI oO
    try simp only [PT]
    refine ryy [7] ?_
    refine .cons rfl (fun K hK=>?_) .nil
    obtain ⟨z0,z1,z2,z3⟩:=bO.out.cells
    have y0:=bO.out.frozen 0
    have y1:=bO.out.frozen 1
    have y2:=bO.out.frozen 2
    have y3:=bO.out.frozen 3
    have z9:=bO.out.lt
    go_simp
    obtain ⟨v4,hV⟩:=nmz (World.setCell (World.setCell (World.setCell (World.setCell v3 ⟨(h+1+1),0,none⟩ (.bool t7)) ⟨(h+1+1),1,none⟩ (.slice T7 m7 d7)) ⟨(h+1+1),2,none⟩ (.bool t8)) ⟨(h+1+1),3,none⟩ (.slice T8 m8 d8))
    rw [hV]
    have cF:=hJ (show Below w.heap.size w v4 by rw [←hV]; exact below_box4 cC.out (by rw [HH.out]; omega) _ _ _ _)
    have num_4:=hJ (show PI v4 s11 A11 n11 c11 N by rw [←hV]; exact PIo.box4 (num_3.out) (bO.out) rfl rfl rfl rfl (.bool t7) (.slice T7 m7 d7) (.bool t8) (.slice T8 m8 d8))
    have den_4:=hJ (show PI v4 s10 A10 n10 c10 D by rw [←hV]; exact PIo.box4 (den_3.out) (bO.out) rfl rfl rfl rfl (.bool t7) (.slice T7 m7 d7) (.bool t8) (.slice T8 m8 d8))
    have sh_4:=hJ (show PI v4 s14 A14 n14 c14 H by rw [←hV]; exact PIo.box4 (sh_3.out) (bO.out) rfl rfl rfl rfl (.bool t7) (.slice T7 m7 d7) (.bool t8) (.slice T8 m8 d8))
    have R5_4:=hJ (show PI v4 t5 T5 m5 d5 (N / H) by rw [←hV]; exact PIo.box4 (R5_3.out) (bO.out) rfl rfl rfl rfl (.bool t7) (.slice T7 m7 d7) (.bool t8) (.slice T8 m8 d8))
    have R6_4:=hJ (show PI v4 t6 T6 m6 d6 (D / H) by rw [←hV]; exact PIo.box4 (R6_3.out) (bO.out) rfl rfl rfl rfl (.bool t7) (.slice T7 m7 d7) (.bool t8) (.slice T8 m8 d8))
    have R7_4:=hJ (show PF v4 t7 T7 m7 d7 t8 T8 m8 d8 (N / H) (D / H) by rw [←hV]; exact PF.box4 (R7_3.out) (bO.out) (.bool t7) (.slice T7 m7 d7) (.bool t8) (.slice T8 m8 d8))
    have oP:=hJ (show P2 33 v4 gN (.bool s11) (.slice A11 n11 c11) by rw [←hV]; exact fJ.out.far4 (show gN≠(h+1+1) from hR.out.1) (.bool t7) (.slice T7 m7 d7) (.bool t8) (.slice T8 m8 d8))
    have oQ:=hJ (show P2 33 v4 gD (.bool s10) (.slice A10 n10 c10) by rw [←hV]; exact fK.out.far4 (show gD≠(h+1+1) from hR.out.2.1) (.bool t7) (.slice T7 m7 d7) (.bool t8) (.slice T8 m8 d8))
    have oR:=hJ (show P2 33 v4 gS (.bool s14) (.slice A14 n14 c14) by rw [←hV]; exact fL.out.far4 (show gS≠(h+1+1) from hR.out.2.2) (.bool t7) (.slice T7 m7 d7) (.bool t8) (.slice T8 m8 d8))
    have pO:=hJ (show P4 35 v4 (h+1+1) (.bool t7) (.slice T7 m7 d7) (.bool t8) (.slice T8 m8 d8) by rw [←hV]; exact bO.out.all (.bool t7) (.slice T7 m7 d7) (.bool t8) (.slice T8 m8 d8))
    clear hHeld
    refine hK.out _ _ (⟨oP.out.cells.1,oP.out.cells.2,oQ.out.cells.1,oQ.out.cells.2,oR.out.cells.1,oR.out.cells.2,cF.out⟩) (fun hHeld=>?_)
    clear hK K hV z9 z0 z1 z2 z3 y0 y1 y2 y3 cC num_3 den_3 sh_3 R5_3 R6_3 R7_3 fJ fK fL bO
    refine tq 8 ?_
    try simp only [PT]
    refine wpAnyH_done (by kernel_rfl) ?_ _
    clear hHeld
    go_wp2
    exact bodyPost_ret (results_cell1 rfl _ _ _ _ _ _ _ rfl (pO.out) Tryz.underlying35 rfl F_size) rfl (by rw [hS.out.1,hS.out.2.1,hS.out.2.2]; exact ⟨t7,T7,m7,d7,t8,T8,m8,d8,rfl,R7_4.out,cF.out⟩)
   ·have fM:=hJ (dZ.out.2 hu)
    have hub:(u == 0)=false:=by simp [hu]
    have hue:u=4:=fM.out.2.2.2
    subst hue
    clear hu dZ hub
    obtain ⟨z0,z1,z2,z3⟩:=cD.out.cells
    have f0:=cD.out.frozen 0
    have f1:=cD.out.frozen 1
    have f2:=cD.out.frozen 2
    have f3:=cD.out.frozen 3
    go_wp2
    exact bodyPost_ret (results_cell1 rfl _ _ _ _ _ _ _ rfl (cD.out.all (.bool false) (.slice none 0 0) (.bool false) (.slice none 0 0)) Tryz.underlying35 rfl F_size) rfl (by rw [fM.out.1,fM.out.2.1,fM.out.2.2.1]; exact RetFE.stored (p:=0) (q:=1) ⟨PI.zero _,PI.zero _⟩ cD.out hM.out (by rw [HH.out]; omega) _ _ _ _)

end Go.Proofs.YtagakcficjcfhaaGreat
