/- Contracts of the program's fractions: Add. Conditions: as each statement has them. -/
import Derived.Test.YteggneaefggbmaaGreatFD
import Derived.Deep.DeepCutAuto
namespace Go.Proofs.YteggneaefggbmaaGreat
set_option maxRecDepth 100000
set_option maxHeartbeats 12800000
open Go.RowKit
attribute [local go_sem ↓] Go.wp_at_zero Go.wp_at_succ
def W444 (t:TypeId) (w:World) (a0 a1 a2 a3 b0 b1 b2 b3 z0 z1 z2 z3:Value):World:=((w.alloc (.cells #[a0,a1,a2,a3] t)).alloc (.cells #[b0,b1,b2,b3] t)).alloc (.cells #[z0,z1,z2,z3] t)
section
variable (t:TypeId) (w:World) (a0 a1 a2 a3 b0 b1 b2 b3 z0 z1 z2 z3:Value)
theorem W444_a:P4 t (W444 t w a0 a1 a2 a3 b0 b1 b2 b3 z0 z1 z2 z3) w.heap.size a0 a1 a2 a3:=((P4.lit w t a0 a1 a2 a3).new ((Below.refl _ _).alloc (Nat.le_refl _) _)).new ((Below.refl _ _).alloc (Nat.le_refl _) _)
theorem W444_b:P4 t (W444 t w a0 a1 a2 a3 b0 b1 b2 b3 z0 z1 z2 z3) (w.heap.size+1) b0 b1 b2 b3:=by
 have:=P4.lit (w.alloc (.cells #[a0,a1,a2,a3] t)) t b0 b1 b2 b3
 rw [World.size_alloc] at this
 exact this.new ((Below.refl _ _).alloc (Nat.le_refl _) _)
theorem W444_z:P4 t (W444 t w a0 a1 a2 a3 b0 b1 b2 b3 z0 z1 z2 z3) (w.heap.size+1+1) z0 z1 z2 z3:=by
 have:=P4.lit ((w.alloc (.cells #[a0,a1,a2,a3] t)).alloc (.cells #[b0,b1,b2,b3] t)) t z0 z1 z2 z3
 rw [World.size_alloc,World.size_alloc] at this
 exact this
theorem W444_k:Below w.heap.size w (W444 t w a0 a1 a2 a3 b0 b1 b2 b3 z0 z1 z2 z3):=(((Below.refl _ w).alloc (Nat.le_refl _) _).alloc (by simp) _).alloc (by simp; omega) _
end
def adG (q s:Int):Int:=((Nat.gcd q.natAbs s.natAbs:Nat):Int)
def adN (p q r s:Int):Int:=p*(s / adG q s)+r*(q / adG q s)
def adD (q s:Int):Int:=q / adG q s*s
/-- Everything on the way is in range. -/
def adK (p q r s:Int):Prop:=(p*(s / adG q s)).natAbs < lim∧(r*(q / adG q s)).natAbs < lim∧(adN p q r s).natAbs < lim∧(adD q s).natAbs < lim
instance (p q r s:Int):Decidable (adK p q r s):=by unfold adK; infer_instance
def adH (p q r s:Int):Int:=((Nat.gcd (adN p q r s).natAbs (adG q s).natAbs:Nat):Int)
def adP (p q r s:Int):Int:=if adK p q r s then adN p q r s / adH p q r s else 0
def adQ (p q r s:Int):Int:=if adK p q r s then adD q s / adH p q r s else 1
def adC (p q r s:Int):Int:=if adK p q r s then 0 else 4
theorem ad_gcd {q s:Int} (hq:0 < q) (_:0 < s) (hlq:q.natAbs < lim) (hls:s.natAbs < lim):adG q s≠0∧(adG q s).natAbs < lim∧(q / adG q s).natAbs < lim∧(s / adG q s).natAbs < lim:=by
 have h1:=Nat.gcd_pos_of_pos_left s.natAbs (show 0 < q.natAbs by omega)
 have h2:=Nat.gcd_le_left s.natAbs (show 0 < q.natAbs by omega)
 refine ⟨by unfold adG; omega,by unfold adG; rw [Int.natAbs_natCast]; omega,Nat.lt_of_le_of_lt (Int.natAbs_ediv_le_natAbs _ _) hlq,Nat.lt_of_le_of_lt (Int.natAbs_ediv_le_natAbs _ _) hls⟩
theorem codes_lit4 {w:World} {t:TypeId} (a b c d:Int):Codes (w.alloc (.cells #[.int .i64 a,.int .i64 b,.int .i64 c,.int .i64 d] t)) w.heap.size [a,b,c,d]:=by
 have hh:=(P4.lit w t (.int .i64 a) (.int .i64 b) (.int .i64 c) (.int .i64 d)).cells
 intro i hi
 match i,hi with
 | 0,_=>exact hh.1
 | 1,_=>exact hh.2.1
 | 2,_=>exact hh.2.2.1
 | 3,_=>exact hh.2.2.2
theorem P2_ne_P4 {t u:TypeId} {w:World} {b c:Nat} {x0 x1 y0 y1 y2 y3:Value} (h:P2 t w b x0 x1) (k:P4 u w c y0 y1 y2 y3):b≠c:=by
 intro e
 subst e
 unfold P2 at h
 unfold P4 at k
 rw [h] at k
 injection k with k
 injection k with k
 exact absurd (congrArg Array.size k) (by simp)
theorem ad_codes {p q r s g qp sp:Int} (hg:adG q s=g) (hq:q / g=qp) (hs:s / g=sp) (h0:g≠0) (hl:g.natAbs < lim) :
  (feV [outC (p*sp),outC (r*qp),outC (outV (p*sp)+outV (r*qp)),outC (qp*s)]=0→outV (outV (p*sp)+outV (r*qp))=adN p q r s∧outV (qp*s)=adD q s∧adK p q r s∧True∧((Nat.gcd (adN p q r s).natAbs g.natAbs:Nat):Int).natAbs < lim∧((Nat.gcd (adN p q r s).natAbs g.natAbs:Nat):Int)≠0∧True∧(adD q s / ((Nat.gcd (adN p q r s).natAbs g.natAbs:Nat):Int)).natAbs < lim) ∧
  (feV [outC (p*sp),outC (r*qp),outC (outV (p*sp)+outV (r*qp)),outC (qp*s)]≠0→adP p q r s=0∧adQ p q r s=1∧adC p q r s=4∧feV [outC (p*sp),outC (r*qp),outC (outV (p*sp)+outV (r*qp)),outC (qp*s)]=4):=by
 have eN:adN p q r s=p*sp+r*qp:=by unfold adN; rw [hg,hq,hs]
 have eD:adD q s=qp*s:=by unfold adD; rw [hg,hq]
 have eK:adK p q r s↔(p*sp).natAbs < lim∧(r*qp).natAbs < lim∧(p*sp+r*qp).natAbs < lim∧(qp*s).natAbs < lim:=by
  unfold adK
  rw [eN,eD,hg,hq,hs]
 have h1:=Nat.gcd_pos_of_pos_right (adN p q r s).natAbs (show 0 < g.natAbs by omega)
 have h2:=Nat.gcd_le_right (adN p q r s).natAbs (show 0 < g.natAbs by omega)
 have no:¬ adK p q r s→adP p q r s=0∧adQ p q r s=1∧adC p q r s=4:=fun h=>⟨if_neg h,if_neg h,if_neg h⟩
 generalize p*sp=x at *
 generalize r*qp=y at *
 generalize qp*s=z at *
 rcases outVC x with ⟨a1,a2,a3⟩ | ⟨a1,a2,a3⟩
 ·rcases outVC y with ⟨b1,b2,b3⟩ | ⟨b1,b2,b3⟩
  ·rw [a2,b2,a3,b3]
   rcases outVC (x+y) with ⟨c1,c2,c3⟩ | ⟨c1,c2,c3⟩
   ·rcases outVC z with ⟨d1,d2,d3⟩ | ⟨d1,d2,d3⟩
    ·rw [c2,c3,d2,d3]
     refine ⟨fun _=>⟨eN.symm,eD.symm,eK.2 ⟨a1,b1,c1,d1⟩,trivial,by rw [Int.natAbs_natCast]; omega,by omega,trivial,?_⟩,fun h=>absurd rfl h⟩
     refine Nat.lt_of_le_of_lt (Int.natAbs_ediv_le_natAbs _ _) ?_
     rw [eD]
     exact d1
    rw [c3,d3]
    exact ⟨fun h=>by simp [feV] at h,fun _=>⟨(no (fun k=>d1 (eK.1 k).2.2.2)).1,(no (fun k=>d1 (eK.1 k).2.2.2)).2.1,(no (fun k=>d1 (eK.1 k).2.2.2)).2.2,by simp [feV]⟩⟩
   rw [c3]
   exact ⟨fun h=>by simp [feV] at h,fun _=>⟨(no (fun k=>c1 (eK.1 k).2.2.1)).1,(no (fun k=>c1 (eK.1 k).2.2.1)).2.1,(no (fun k=>c1 (eK.1 k).2.2.1)).2.2,by simp [feV]⟩⟩
  rw [a3,b3]
  exact ⟨fun h=>by simp [feV] at h,fun _=>⟨(no (fun k=>b1 (eK.1 k).2.1)).1,(no (fun k=>b1 (eK.1 k).2.1)).2.1,(no (fun k=>b1 (eK.1 k).2.1)).2.2,by simp [feV]⟩⟩
 ·rw [a3]
  exact ⟨fun h=>by simp [feV] at h,fun _=>⟨(no (fun k=>a1 (eK.1 k).1)).1,(no (fun k=>a1 (eK.1 k).1)).2.1,(no (fun k=>a1 (eK.1 k).1)).2.2,by simp [feV]⟩⟩
theorem ad_ok {p q r s N D g H:Int} (hk:adK p q r s) (_:True) (hN:adN p q r s=N) (hD:adD q s=D) (hg:adG q s=g) (hH:((Nat.gcd N.natAbs g.natAbs:Nat):Int)=H):adP p q r s=N / H∧adQ p q r s=D / H∧adC p q r s=0:=by
 have e:adH p q r s=H:=by unfold adH; rw [hN,hg,hH]
 exact ⟨by unfold adP; rw [if_pos hk,hN,e],by unfold adQ; rw [if_pos hk,hD,e],if_pos hk⟩
theorem fadd_any (p q r s:Int) (sa sb sd se:Bool) (Aa Ab Ad Ae:Option Addr) (na ca nb cb nd cd ne ce:Nat) (w:World) (hx:PF w sa Aa na ca sb Ab nb cb p q) (hy:PF w sd Ad nd cd se Ae ne ce r s) (hq:0 < q) (hs:0 < s) (hlp:p.natAbs < lim) (hlq:q.natAbs < lim) (hlr:r.natAbs < lim) (hls:s.natAbs < lim) :
  Calls Tryz.prog 45 #[.agg #[.bool sa,.slice Aa na ca,.bool sb,.slice Ab nb cb],.agg #[.bool sd,.slice Ad nd cd,.bool se,.slice Ae ne ce]] w (RetFE (adP p q r s) (adQ p q r s) (adC p q r s) w):=by
 have aW:=hJ (And.intro hq (And.intro hs (And.intro hlp (And.intro hlq (And.intro hlr hls)))))
 obtain ⟨W,hW⟩:∃ W,((w.alloc (.cells #[.bool sa,.slice Aa na ca,.bool sb,.slice Ab nb cb] 27)).alloc (.cells #[.bool sd,.slice Ad nd cd,.bool se,.slice Ae ne ce] 27)).alloc (.cells #[.bool false,.slice none 0 0,.bool false,.slice none 0 0] 27)=W:=⟨_,rfl⟩
 have HK:=hJ (show Below w.heap.size w W by rw [←hW]; exact W444_k _ _ _ _ _ _ _ _ _ _ _ _ _ _)
 have cF:=hJ (show P4 27 W w.heap.size (.bool sa) (.slice Aa na ca) (.bool sb) (.slice Ab nb cb) by rw [←hW]; exact W444_a _ _ _ _ _ _ _ _ _ _ _ _ _ _)
 have cG:=hJ (show P4 27 W (w.heap.size+1) (.bool sd) (.slice Ad nd cd) (.bool se) (.slice Ae ne ce) by rw [←hW]; exact W444_b _ _ _ _ _ _ _ _ _ _ _ _ _ _)
 have fK:=hJ (show P4 27 W (w.heap.size+1+1) (.bool false) (.slice none 0 0) (.bool false) (.slice none 0 0) by rw [←hW]; exact W444_z _ _ _ _ _ _ _ _ _ _ _ _ _ _)
 have fL:=hJ (hx.new HK.out)
 have fM:=hJ (hy.new HK.out)
 have hQ:=hJ (show PF W false none 0 0 false none 0 0 0 1 from ⟨PI.zero W,PI.zero W⟩)
 have hna:na≤512:=plim hx.1 hlp
 have hnb:nb≤512:=plim hx.2 (dn_lim hlq)
 have hnd:nd≤512:=plim hy.1 hlr
 have hne:ne≤512:=plim hy.2 (dn_lim hls)
 obtain ⟨h,hh⟩:∃ h,w.heap.size=h:=⟨_,rfl⟩
 have HH:=hJ hh
 rw [hh] at cF cG fK
 clear hx hy hq hs hlp hlq hlr hls
 go_enter Tryz.func45,Tryz.ntmps45
 have aD:Hid (∀ w',Below W.heap.size W w'→(fun w':World=>w'.cell? ⟨h,0,none⟩=some (.bool sa)∧w'.cell? ⟨h,1,none⟩=some (.slice Aa na ca)∧w'.cell? ⟨h,2,none⟩=some (.bool sb)∧w'.cell? ⟨h,3,none⟩=some (.slice Ab nb cb)∧w'.cell? ⟨(h+1),0,none⟩=some (.bool sd)∧w'.cell? ⟨(h+1),1,none⟩=some (.slice Ad nd cd)∧w'.cell? ⟨(h+1),2,none⟩=some (.bool se)∧w'.cell? ⟨(h+1),3,none⟩=some (.slice Ae ne ce)∧Below W.heap.size W w') w'):=hJ (fun w' hb=>⟨(cF.out.new hb).cells.1,(cF.out.new hb).cells.2.1,(cF.out.new hb).cells.2.2.1,(cF.out.new hb).cells.2.2.2,(cG.out.new hb).cells.1,(cG.out.new hb).cells.2.1,(cG.out.new hb).cells.2.2.1,(cG.out.new hb).cells.2.2.2,hb⟩)
 have hR:=hJ (Below.refl W.heap.size W)
 go_upto_region 1 with fail
 clear hW hh
 go_cut [6,7] (fun tp tq wx=>∃ (G H:Nat) (s2a:Bool) (A2a:Option Addr) (n2a c2a:Nat) (s2b:Bool) (A2b:Option Addr) (n2b c2b:Nat),tp=.pointer (some ⟨G,0,none⟩)∧tq=.pointer (some ⟨H,0,none⟩)∧P2 25 wx G (.bool s2a) (.slice A2a n2a c2a)∧P2 25 wx H (.bool s2b) (.slice A2b n2b c2b)∧PI wx s2a A2a n2a c2a (q)∧PI wx s2b A2b n2b c2b (s)∧Below W.heap.size W wx)
 case first =>
  have cH:=hR
  obtain ⟨v0,hv0⟩:=nmz (World.drew W)
  have aF:=hJ (show Below W.heap.size W v0 by rw [←hv0]; exact (Below.refl _ _).drew)
  have a_0:=hJ ((fL.out).new aF.out)
  have b_0:=hJ ((fM.out).new aF.out)
  refine wp_region_held_drew (S:=(fun w':World=>w'.cell? ⟨h,0,none⟩=some (.bool sa)∧w'.cell? ⟨h,1,none⟩=some (.slice Aa na ca)∧w'.cell? ⟨h,2,none⟩=some (.bool sb)∧w'.cell? ⟨h,3,none⟩=some (.slice Ab nb cb)∧w'.cell? ⟨(h+1),0,none⟩=some (.bool sd)∧w'.cell? ⟨(h+1),1,none⟩=some (.slice Ad nd cd)∧w'.cell? ⟨(h+1),2,none⟩=some (.bool se)∧w'.cell? ⟨(h+1),3,none⟩=some (.slice Ae ne ce)∧Below W.heap.size W w')) (by kernel_rfl) ?_ (fun hHeld=>?_)
  ·rw [hv0]
   exact aD.out _ aF.out
  rw [hv0] at hHeld ⊢
  clear hv0 cH
  refine tq 0 ?_
  refine tq 2 ?_
  try simp only [PT]
  refine wpAnyH_name (fun F hF a0 ha0 L0 hL0=>?_)
  have cV:∀ (s2a:Bool) (A2a:Option Addr) (n2a:Nat) (c2a:Nat) (s2b:Bool) (A2b:Option Addr) (n2b:Nat) (c2b:Nat) (gx:Nat) (gy:Nat) (v:World),Hid (Below W.heap.size W v)→Hid (PF v sa Aa na ca sb Ab nb cb p q)→Hid (PF v sd Ad nd cd se Ae ne ce r s)→Hid (PI v s2a A2a n2a c2a (q))→Hid (PI v s2b A2b n2b c2b (s))→Hid (P2 25 v gx (.bool false) (.slice none 0 0))→Hid (W.heap.size≤gx)→Hid (P2 25 v gy (.bool false) (.slice none 0 0))→Hid (W.heap.size≤gy)→Hid (gx≠gy)→F 2 (Array.setIfInBounds (Array.setIfInBounds (Array.setIfInBounds (Array.setIfInBounds L0 1 true) 3 true) 4 true) 5 true) (Act.put (Act.put (Act.put (Act.put a0 (some 22) (.agg #[.bool s2a,.slice A2a n2a c2a])) (some 24) (.agg #[.bool s2b,.slice A2b n2b c2b])) (some 6) (.pointer (some ⟨gx,0,none⟩))) (some 7) (.pointer (some ⟨gy,0,none⟩))) v:=by
   intro s2a A2a n2a c2a s2b A2b n2b c2b gx gy v aA a_j b_j N0_j N1_j aB aH aC aI bM
   subst hF ha0 hL0
   simp only [PT] at  ⊢
   have hHeld:=aD.out _ aA.out
   refine ryy [6] ?_
   refine .cons rfl (fun K hK=>?_) .nil
   obtain ⟨z0,z1⟩:=aB.out.cells
   have y0:=aB.out.frozen 0
   have y1:=aB.out.frozen 1
   have z9:=aB.out.lt
   go_simp
   obtain ⟨v1,hV⟩:=nmz (World.setCell (World.setCell v ⟨gx,0,none⟩ (.bool s2a)) ⟨gx,1,none⟩ (.slice A2a n2a c2a))
   rw [hV]
   have bT:=hJ (show Below W.heap.size W v1 by rw [←hV]; exact below_box aA.out (aH.out) _ _)
   have a_1:=hJ (show PF v1 sa Aa na ca sb Ab nb cb p q by rw [←hV]; exact PF.box (a_j.out) (aB.out) (.bool s2a) (.slice A2a n2a c2a))
   have b_1:=hJ (show PF v1 sd Ad nd cd se Ae ne ce r s by rw [←hV]; exact PF.box (b_j.out) (aB.out) (.bool s2a) (.slice A2a n2a c2a))
   have N0_1:=hJ (show PI v1 s2a A2a n2a c2a (q) by rw [←hV]; exact PIo.box (N0_j.out) (aB.out) rfl rfl (.bool s2a) (.slice A2a n2a c2a))
   have N1_1:=hJ (show PI v1 s2b A2b n2b c2b (s) by rw [←hV]; exact PIo.box (N1_j.out) (aB.out) rfl rfl (.bool s2a) (.slice A2a n2a c2a))
   have aN:=hJ (show P2 25 v1 gy (.bool false) (.slice none 0 0) by rw [←hV]; exact aC.out.far2 (show gy≠gx from bM.out.symm) (.bool s2a) (.slice A2a n2a c2a))
   have cZ:=hJ (show P2 25 v1 gx (.bool s2a) (.slice A2a n2a c2a) by rw [←hV]; exact aB.out.all (.bool s2a) (.slice A2a n2a c2a))
   clear hHeld
   refine hK.out _ _ (aD.out _ bT.out) (fun hHeld=>?_)
   clear hK K hV z9 z0 z1 y0 y1 aA a_j b_j N0_j N1_j aC aB
   try simp only [PT]
   refine ryy [7] ?_
   refine .cons rfl (fun K hK=>?_) .nil
   obtain ⟨z0,z1⟩:=aN.out.cells
   have y0:=aN.out.frozen 0
   have y1:=aN.out.frozen 1
   have z9:=aN.out.lt
   go_simp
   obtain ⟨v2,hV⟩:=nmz (World.setCell (World.setCell v1 ⟨gy,0,none⟩ (.bool s2b)) ⟨gy,1,none⟩ (.slice A2b n2b c2b))
   rw [hV]
   have bY:=hJ (show Below W.heap.size W v2 by rw [←hV]; exact below_box bT.out (aI.out) _ _)
   have a_2:=hJ (show PF v2 sa Aa na ca sb Ab nb cb p q by rw [←hV]; exact PF.box (a_1.out) (aN.out) (.bool s2b) (.slice A2b n2b c2b))
   have b_2:=hJ (show PF v2 sd Ad nd cd se Ae ne ce r s by rw [←hV]; exact PF.box (b_1.out) (aN.out) (.bool s2b) (.slice A2b n2b c2b))
   have N0_2:=hJ (show PI v2 s2a A2a n2a c2a (q) by rw [←hV]; exact PIo.box (N0_1.out) (aN.out) rfl rfl (.bool s2b) (.slice A2b n2b c2b))
   have N1_2:=hJ (show PI v2 s2b A2b n2b c2b (s) by rw [←hV]; exact PIo.box (N1_1.out) (aN.out) rfl rfl (.bool s2b) (.slice A2b n2b c2b))
   have fN:=hJ (show P2 25 v2 gx (.bool s2a) (.slice A2a n2a c2a) by rw [←hV]; exact cZ.out.far2 (show gx≠gy from bM.out) (.bool s2b) (.slice A2b n2b c2b))
   have fO:=hJ (show P2 25 v2 gy (.bool s2b) (.slice A2b n2b c2b) by rw [←hV]; exact aN.out.all (.bool s2b) (.slice A2b n2b c2b))
   clear hHeld
   refine hK.out _ _ (aD.out _ bY.out) (fun hHeld=>?_)
   clear hK K hV z9 z0 z1 y0 y1 bT a_1 b_1 N0_1 N1_1 cZ aN
   try simp only [PT]
   refine wpAnyH_done (by kernel_rfl) ?_ _
   clear hHeld
   go_wp2_with fail
   go_meet
   exact ⟨gx,gy,s2a,A2a,n2a,c2a,s2b,A2b,n2b,c2b,rfl,rfl,fN.out,fO.out,N0_2.out,N1_2.out,bY.out⟩
  have dX:∀ (s2a:Bool) (A2a:Option Addr) (n2a:Nat) (c2a:Nat) (s2b:Bool) (A2b:Option Addr) (n2b:Nat) (c2b:Nat) (gx:Nat) (v:World),Hid (Below W.heap.size W v)→Hid (PF v sa Aa na ca sb Ab nb cb p q)→Hid (PF v sd Ad nd cd se Ae ne ce r s)→Hid (PI v s2a A2a n2a c2a (q))→Hid (PI v s2b A2b n2b c2b (s))→Hid (P2 25 v gx (.bool false) (.slice none 0 0))→Hid (W.heap.size≤gx)→F 3 (Array.setIfInBounds (Array.setIfInBounds (Array.setIfInBounds L0 1 true) 3 true) 4 true) (Act.put (Act.put (Act.put a0 (some 22) (.agg #[.bool s2a,.slice A2a n2a c2a])) (some 24) (.agg #[.bool s2b,.slice A2b n2b c2b])) (some 6) (.pointer (some ⟨gx,0,none⟩))) v:=by
   intro s2a A2a n2a c2a s2b A2b n2b c2b gx v aA a_j b_j N0_j N1_j aB aH
   subst hF ha0 hL0
   simp only [PT] at cV ⊢
   have hHeld:=aD.out _ aA.out
   refine ryy [5] ?_
   refine .cons rfl (fun K hK=>?_) .nil
   go_simp
   have aG:=hJ ((Below.refl v.heap.size v).alloc (Nat.le_refl _) (.cells #[.bool false,.slice none 0 0] 25))
   have cI:=hJ (P2.lit v 25 (.bool false) (.slice none 0 0))
   obtain ⟨v3,hV⟩:=nmz (World.alloc v (.cells #[.bool false,.slice none 0 0] 25))
   obtain ⟨gy,hg⟩:=nmz (v.heap.size)
   rw [hV] at aG cI  ⊢
   rw [hg] at cI  ⊢
   have aL:=hJ (show W.heap.size≤gy by rw [←hg]; exact aA.out.size)
   have bU:=hJ (show gx≠gy by have:=aB.out.lt; rw [hg] at this; omega)
   have bZ:=hJ (bt aA.out aG.out)
   have a_3:=hJ ((a_j.out).new aG.out)
   have b_3:=hJ ((b_j.out).new aG.out)
   have N0_3:=hJ (PIo.new N0_j.out aG.out)
   have N1_3:=hJ (PIo.new N1_j.out aG.out)
   have fP:=hJ (aB.out.new aG.out)
   clear hHeld
   refine hK.out _ _ (aD.out _ bZ.out) (fun hHeld=>?_)
   clear hK K hV hg aG aA a_j b_j N0_j N1_j aB
   try simp only [PT]
   exact wpAnyH_cast (by kernel_rfl) (cV s2a A2a n2a c2a s2b A2b n2b c2b gx gy v3 bZ a_3 b_3 N0_3 N1_3 fP (hJ (aH.out)) cI (hJ (aL.out)) (hJ (bU.out)))
  have dY:∀ (s2a:Bool) (A2a:Option Addr) (n2a:Nat) (c2a:Nat) (s2b:Bool) (A2b:Option Addr) (n2b:Nat) (c2b:Nat) (gy:Nat) (v:World),Hid (Below W.heap.size W v)→Hid (PF v sa Aa na ca sb Ab nb cb p q)→Hid (PF v sd Ad nd cd se Ae ne ce r s)→Hid (PI v s2a A2a n2a c2a (q))→Hid (PI v s2b A2b n2b c2b (s))→Hid (P2 25 v gy (.bool false) (.slice none 0 0))→Hid (W.heap.size≤gy)→F 3 (Array.setIfInBounds (Array.setIfInBounds (Array.setIfInBounds L0 1 true) 3 true) 5 true) (Act.put (Act.put (Act.put a0 (some 22) (.agg #[.bool s2a,.slice A2a n2a c2a])) (some 24) (.agg #[.bool s2b,.slice A2b n2b c2b])) (some 7) (.pointer (some ⟨gy,0,none⟩))) v:=by
   intro s2a A2a n2a c2a s2b A2b n2b c2b gy v aA a_j b_j N0_j N1_j aC aI
   subst hF ha0 hL0
   simp only [PT] at cV ⊢
   have hHeld:=aD.out _ aA.out
   refine ryy [4] ?_
   refine .cons rfl (fun K hK=>?_) .nil
   go_simp
   have aS:=hJ ((Below.refl v.heap.size v).alloc (Nat.le_refl _) (.cells #[.bool false,.slice none 0 0] 25))
   have cJ:=hJ (P2.lit v 25 (.bool false) (.slice none 0 0))
   obtain ⟨v4,hV⟩:=nmz (World.alloc v (.cells #[.bool false,.slice none 0 0] 25))
   obtain ⟨gx,hg⟩:=nmz (v.heap.size)
   rw [hV] at aS cJ  ⊢
   rw [hg] at cJ  ⊢
   have aM:=hJ (show W.heap.size≤gx by rw [←hg]; exact aA.out.size)
   have bV:=hJ (show gy≠gx by have:=aC.out.lt; rw [hg] at this; omega)
   have cC:=hJ (bt aA.out aS.out)
   have a_4:=hJ ((a_j.out).new aS.out)
   have b_4:=hJ ((b_j.out).new aS.out)
   have N0_4:=hJ (PIo.new N0_j.out aS.out)
   have N1_4:=hJ (PIo.new N1_j.out aS.out)
   have fQ:=hJ (aC.out.new aS.out)
   clear hHeld
   refine hK.out _ _ (aD.out _ cC.out) (fun hHeld=>?_)
   clear hK K hV hg aS aA a_j b_j N0_j N1_j aC
   try simp only [PT]
   exact wpAnyH_cast (by kernel_rfl) (cV s2a A2a n2a c2a s2b A2b n2b c2b gx gy v4 cC a_4 b_4 N0_4 N1_4 cJ (hJ (aM.out)) fQ (hJ (aI.out)) (hJ (bV.out.symm)))
  have cW:∀ (s2a:Bool) (A2a:Option Addr) (n2a:Nat) (c2a:Nat) (gx:Nat) (gy:Nat) (v:World),Hid (Below W.heap.size W v)→Hid (PF v sa Aa na ca sb Ab nb cb p q)→Hid (PF v sd Ad nd cd se Ae ne ce r s)→Hid (PI v s2a A2a n2a c2a (q))→Hid (P2 25 v gx (.bool false) (.slice none 0 0))→Hid (W.heap.size≤gx)→Hid (P2 25 v gy (.bool false) (.slice none 0 0))→Hid (W.heap.size≤gy)→Hid (gx≠gy)→F 3 (Array.setIfInBounds (Array.setIfInBounds (Array.setIfInBounds L0 1 true) 4 true) 5 true) (Act.put (Act.put (Act.put a0 (some 22) (.agg #[.bool s2a,.slice A2a n2a c2a])) (some 6) (.pointer (some ⟨gx,0,none⟩))) (some 7) (.pointer (some ⟨gy,0,none⟩))) v:=by
   intro s2a A2a n2a c2a gx gy v aA a_j b_j N0_j aB aH aC aI bM
   subst hF ha0 hL0
   simp only [PT] at cV ⊢
   have hHeld:=aD.out _ aA.out
   refine ryy [3] ?_
   refine .cons rfl (fun K hK=>?_) .nil
   go_simp
   go_at_call_of 36 (#[Value.agg #[.bool sd,.slice Ad nd cd,.bool se,.slice Ae ne ce]])
   refine (den_any r s sd se Ad Ae nd cd ne ce v (b_j.out) (by omega) aW.out.2.1).mono ?_
   rintro e v5 ⟨s2b,A2b,n2b,c2b,rfl,hr,hk⟩
   have N1_5:=hJ (hr)
   have aX:=hJ hk
   go_wp2_with fail
   have dA:=hJ (bt aA.out aX.out)
   have a_5:=hJ ((a_j.out).new aX.out)
   have b_5:=hJ ((b_j.out).new aX.out)
   have N0_5:=hJ (PIo.new N0_j.out aX.out)
   have fR:=hJ (aB.out.new aX.out)
   have fS:=hJ (aC.out.new aX.out)
   clear hHeld
   refine hK.out _ _ (aD.out _ dA.out) (fun hHeld=>?_)
   clear hK K hk aX hr aA a_j b_j N0_j aB aC
   try simp only [PT]
   exact wpAnyH_cast (by kernel_rfl) (cV s2a A2a n2a c2a s2b A2b n2b c2b gx gy v5 dA a_5 b_5 N0_5 N1_5 fR (hJ (aH.out)) fS (hJ (aI.out)) (hJ (bM.out)))
  have hS:∀ (s2a:Bool) (A2a:Option Addr) (n2a:Nat) (c2a:Nat) (s2b:Bool) (A2b:Option Addr) (n2b:Nat) (c2b:Nat) (v:World),Hid (Below W.heap.size W v)→Hid (PF v sa Aa na ca sb Ab nb cb p q)→Hid (PF v sd Ad nd cd se Ae ne ce r s)→Hid (PI v s2a A2a n2a c2a (q))→Hid (PI v s2b A2b n2b c2b (s))→F 4 (Array.setIfInBounds (Array.setIfInBounds L0 1 true) 3 true) (Act.put (Act.put a0 (some 22) (.agg #[.bool s2a,.slice A2a n2a c2a])) (some 24) (.agg #[.bool s2b,.slice A2b n2b c2b])) v:=by
   intro s2a A2a n2a c2a s2b A2b n2b c2b v aA a_j b_j N0_j N1_j
   subst hF ha0 hL0
   simp only [PT] at dX dY ⊢
   have hHeld:=aD.out _ aA.out
   refine ryy [4,5] ?_
   refine .cons rfl (fun K hK=>?_) ?_
   go_simp
   have aY:=hJ ((Below.refl v.heap.size v).alloc (Nat.le_refl _) (.cells #[.bool false,.slice none 0 0] 25))
   have cK:=hJ (P2.lit v 25 (.bool false) (.slice none 0 0))
   obtain ⟨v6,hV⟩:=nmz (World.alloc v (.cells #[.bool false,.slice none 0 0] 25))
   obtain ⟨gx,hg⟩:=nmz (v.heap.size)
   rw [hV] at aY cK  ⊢
   rw [hg] at cK  ⊢
   have aM:=hJ (show W.heap.size≤gx by rw [←hg]; exact aA.out.size)
   have dB:=hJ (bt aA.out aY.out)
   have a_6:=hJ ((a_j.out).new aY.out)
   have b_6:=hJ ((b_j.out).new aY.out)
   have N0_6:=hJ (PIo.new N0_j.out aY.out)
   have N1_6:=hJ (PIo.new N1_j.out aY.out)
   clear hHeld
   refine hK.out _ _ (aD.out _ dB.out) (fun hHeld=>?_)
   clear hK K hV hg aY aA a_j b_j N0_j N1_j
   try simp only [PT]
   exact wpAnyH_cast (by kernel_rfl) (dX s2a A2a n2a c2a s2b A2b n2b c2b gx v6 dB a_6 b_6 N0_6 N1_6 cK (hJ (aM.out)))
   refine .cons rfl (fun K hK=>?_) .nil
   go_simp
   have aZ:=hJ ((Below.refl v.heap.size v).alloc (Nat.le_refl _) (.cells #[.bool false,.slice none 0 0] 25))
   have cL:=hJ (P2.lit v 25 (.bool false) (.slice none 0 0))
   obtain ⟨v7,hV⟩:=nmz (World.alloc v (.cells #[.bool false,.slice none 0 0] 25))
   obtain ⟨gy,hg⟩:=nmz (v.heap.size)
   rw [hV] at aZ cL  ⊢
   rw [hg] at cL  ⊢
   have aL:=hJ (show W.heap.size≤gy by rw [←hg]; exact aA.out.size)
   have dD:=hJ (bt aA.out aZ.out)
   have a_7:=hJ ((a_j.out).new aZ.out)
   have b_7:=hJ ((b_j.out).new aZ.out)
   have N0_7:=hJ (PIo.new N0_j.out aZ.out)
   have N1_7:=hJ (PIo.new N1_j.out aZ.out)
   clear hHeld
   refine hK.out _ _ (aD.out _ dD.out) (fun hHeld=>?_)
   clear hK K hV hg aZ aA a_j b_j N0_j N1_j
   try simp only [PT]
   exact wpAnyH_cast (by kernel_rfl) (dY s2a A2a n2a c2a s2b A2b n2b c2b gy v7 dD a_7 b_7 N0_7 N1_7 cL (hJ (aL.out)))
  have dZ:∀ (s2a:Bool) (A2a:Option Addr) (n2a:Nat) (c2a:Nat) (gx:Nat) (v:World),Hid (Below W.heap.size W v)→Hid (PF v sa Aa na ca sb Ab nb cb p q)→Hid (PF v sd Ad nd cd se Ae ne ce r s)→Hid (PI v s2a A2a n2a c2a (q))→Hid (P2 25 v gx (.bool false) (.slice none 0 0))→Hid (W.heap.size≤gx)→F 4 (Array.setIfInBounds (Array.setIfInBounds L0 1 true) 4 true) (Act.put (Act.put a0 (some 22) (.agg #[.bool s2a,.slice A2a n2a c2a])) (some 6) (.pointer (some ⟨gx,0,none⟩))) v:=by
   intro s2a A2a n2a c2a gx v aA a_j b_j N0_j aB aH
   subst hF ha0 hL0
   simp only [PT] at dX cW ⊢
   have hHeld:=aD.out _ aA.out
   refine ryy [3,5] ?_
   refine .cons rfl (fun K hK=>?_) ?_
   go_simp
   go_at_call_of 36 (#[Value.agg #[.bool sd,.slice Ad nd cd,.bool se,.slice Ae ne ce]])
   refine (den_any r s sd se Ad Ae nd cd ne ce v (b_j.out) (by omega) aW.out.2.1).mono ?_
   rintro e v8 ⟨s2b,A2b,n2b,c2b,rfl,hr,hk⟩
   have N1_8:=hJ (hr)
   have bC:=hJ hk
   go_wp2_with fail
   have dE:=hJ (bt aA.out bC.out)
   have a_8:=hJ ((a_j.out).new bC.out)
   have b_8:=hJ ((b_j.out).new bC.out)
   have N0_8:=hJ (PIo.new N0_j.out bC.out)
   have fT:=hJ (aB.out.new bC.out)
   clear hHeld
   refine hK.out _ _ (aD.out _ dE.out) (fun hHeld=>?_)
   clear hK K hk bC hr aA a_j b_j N0_j aB
   try simp only [PT]
   exact wpAnyH_cast (by kernel_rfl) (dX s2a A2a n2a c2a s2b A2b n2b c2b gx v8 dE a_8 b_8 N0_8 N1_8 fT (hJ (aH.out)))
   refine .cons rfl (fun K hK=>?_) .nil
   go_simp
   have bA:=hJ ((Below.refl v.heap.size v).alloc (Nat.le_refl _) (.cells #[.bool false,.slice none 0 0] 25))
   have cM:=hJ (P2.lit v 25 (.bool false) (.slice none 0 0))
   obtain ⟨v9,hV⟩:=nmz (World.alloc v (.cells #[.bool false,.slice none 0 0] 25))
   obtain ⟨gy,hg⟩:=nmz (v.heap.size)
   rw [hV] at bA cM  ⊢
   rw [hg] at cM  ⊢
   have aL:=hJ (show W.heap.size≤gy by rw [←hg]; exact aA.out.size)
   have bU:=hJ (show gx≠gy by have:=aB.out.lt; rw [hg] at this; omega)
   have dF:=hJ (bt aA.out bA.out)
   have a_9:=hJ ((a_j.out).new bA.out)
   have b_9:=hJ ((b_j.out).new bA.out)
   have N0_9:=hJ (PIo.new N0_j.out bA.out)
   have fU:=hJ (aB.out.new bA.out)
   clear hHeld
   refine hK.out _ _ (aD.out _ dF.out) (fun hHeld=>?_)
   clear hK K hV hg bA aA a_j b_j N0_j aB
   try simp only [PT]
   exact wpAnyH_cast (by kernel_rfl) (cW s2a A2a n2a c2a gx gy v9 dF a_9 b_9 N0_9 fU (hJ (aH.out)) cM (hJ (aL.out)) (hJ (bU.out)))
  have eA:∀ (s2a:Bool) (A2a:Option Addr) (n2a:Nat) (c2a:Nat) (gy:Nat) (v:World),Hid (Below W.heap.size W v)→Hid (PF v sa Aa na ca sb Ab nb cb p q)→Hid (PF v sd Ad nd cd se Ae ne ce r s)→Hid (PI v s2a A2a n2a c2a (q))→Hid (P2 25 v gy (.bool false) (.slice none 0 0))→Hid (W.heap.size≤gy)→F 4 (Array.setIfInBounds (Array.setIfInBounds L0 1 true) 5 true) (Act.put (Act.put a0 (some 22) (.agg #[.bool s2a,.slice A2a n2a c2a])) (some 7) (.pointer (some ⟨gy,0,none⟩))) v:=by
   intro s2a A2a n2a c2a gy v aA a_j b_j N0_j aC aI
   subst hF ha0 hL0
   simp only [PT] at dY cW ⊢
   have hHeld:=aD.out _ aA.out
   refine ryy [3,4] ?_
   refine .cons rfl (fun K hK=>?_) ?_
   go_simp
   go_at_call_of 36 (#[Value.agg #[.bool sd,.slice Ad nd cd,.bool se,.slice Ae ne ce]])
   refine (den_any r s sd se Ad Ae nd cd ne ce v (b_j.out) (by omega) aW.out.2.1).mono ?_
   rintro e v10 ⟨s2b,A2b,n2b,c2b,rfl,hr,hk⟩
   have N1_10:=hJ (hr)
   have bD:=hJ hk
   go_wp2_with fail
   have dG:=hJ (bt aA.out bD.out)
   have a_10:=hJ ((a_j.out).new bD.out)
   have b_10:=hJ ((b_j.out).new bD.out)
   have N0_10:=hJ (PIo.new N0_j.out bD.out)
   have fV:=hJ (aC.out.new bD.out)
   clear hHeld
   refine hK.out _ _ (aD.out _ dG.out) (fun hHeld=>?_)
   clear hK K hk bD hr aA a_j b_j N0_j aC
   try simp only [PT]
   exact wpAnyH_cast (by kernel_rfl) (dY s2a A2a n2a c2a s2b A2b n2b c2b gy v10 dG a_10 b_10 N0_10 N1_10 fV (hJ (aI.out)))
   refine .cons rfl (fun K hK=>?_) .nil
   go_simp
   have bB:=hJ ((Below.refl v.heap.size v).alloc (Nat.le_refl _) (.cells #[.bool false,.slice none 0 0] 25))
   have cN:=hJ (P2.lit v 25 (.bool false) (.slice none 0 0))
   obtain ⟨v11,hV⟩:=nmz (World.alloc v (.cells #[.bool false,.slice none 0 0] 25))
   obtain ⟨gx,hg⟩:=nmz (v.heap.size)
   rw [hV] at bB cN  ⊢
   rw [hg] at cN  ⊢
   have aM:=hJ (show W.heap.size≤gx by rw [←hg]; exact aA.out.size)
   have bV:=hJ (show gy≠gx by have:=aC.out.lt; rw [hg] at this; omega)
   have dH:=hJ (bt aA.out bB.out)
   have a_11:=hJ ((a_j.out).new bB.out)
   have b_11:=hJ ((b_j.out).new bB.out)
   have N0_11:=hJ (PIo.new N0_j.out bB.out)
   have fW:=hJ (aC.out.new bB.out)
   clear hHeld
   refine hK.out _ _ (aD.out _ dH.out) (fun hHeld=>?_)
   clear hK K hV hg bB aA a_j b_j N0_j aC
   try simp only [PT]
   exact wpAnyH_cast (by kernel_rfl) (cW s2a A2a n2a c2a gx gy v11 dH a_11 b_11 N0_11 cN (hJ (aM.out)) fW (hJ (aI.out)) (hJ (bV.out.symm)))
  have eB:∀ (gx:Nat) (gy:Nat) (v:World),Hid (Below W.heap.size W v)→Hid (PF v sa Aa na ca sb Ab nb cb p q)→Hid (PF v sd Ad nd cd se Ae ne ce r s)→Hid (P2 25 v gx (.bool false) (.slice none 0 0))→Hid (W.heap.size≤gx)→Hid (P2 25 v gy (.bool false) (.slice none 0 0))→Hid (W.heap.size≤gy)→Hid (gx≠gy)→F 4 (Array.setIfInBounds (Array.setIfInBounds L0 4 true) 5 true) (Act.put (Act.put a0 (some 6) (.pointer (some ⟨gx,0,none⟩))) (some 7) (.pointer (some ⟨gy,0,none⟩))) v:=by
   intro gx gy v aA a_j b_j aB aH aC aI bM
   subst hF ha0 hL0
   simp only [PT] at cW ⊢
   have hHeld:=aD.out _ aA.out
   refine ryy [1] ?_
   refine .cons rfl (fun K hK=>?_) .nil
   go_simp
   go_at_call_of 36 (#[Value.agg #[.bool sa,.slice Aa na ca,.bool sb,.slice Ab nb cb]])
   refine (den_any p q sa sb Aa Ab na ca nb cb v (a_j.out) (by omega) aW.out.1).mono ?_
   rintro e v12 ⟨s2a,A2a,n2a,c2a,rfl,hr,hk⟩
   have N0_12:=hJ (hr)
   have bE:=hJ hk
   go_wp2_with fail
   have dI:=hJ (bt aA.out bE.out)
   have a_12:=hJ ((a_j.out).new bE.out)
   have b_12:=hJ ((b_j.out).new bE.out)
   have fX:=hJ (aB.out.new bE.out)
   have fY:=hJ (aC.out.new bE.out)
   clear hHeld
   refine hK.out _ _ (aD.out _ dI.out) (fun hHeld=>?_)
   clear hK K hk bE hr aA a_j b_j aB aC
   try simp only [PT]
   exact wpAnyH_cast (by kernel_rfl) (cW s2a A2a n2a c2a gx gy v12 dI a_12 b_12 N0_12 fX (hJ (aH.out)) fY (hJ (aI.out)) (hJ (bM.out)))
  have J1:∀ (s2a:Bool) (A2a:Option Addr) (n2a:Nat) (c2a:Nat) (v:World),Hid (Below W.heap.size W v)→Hid (PF v sa Aa na ca sb Ab nb cb p q)→Hid (PF v sd Ad nd cd se Ae ne ce r s)→Hid (PI v s2a A2a n2a c2a (q))→F 5 (Array.setIfInBounds L0 1 true) (Act.put a0 (some 22) (.agg #[.bool s2a,.slice A2a n2a c2a])) v:=by
   intro s2a A2a n2a c2a v aA a_j b_j N0_j
   subst hF ha0 hL0
   simp only [PT] at hS dZ eA ⊢
   have hHeld:=aD.out _ aA.out
   refine ryy [3,4,5] ?_
   refine .cons rfl (fun K hK=>?_) ?_
   go_simp
   go_at_call_of 36 (#[Value.agg #[.bool sd,.slice Ad nd cd,.bool se,.slice Ae ne ce]])
   refine (den_any r s sd se Ad Ae nd cd ne ce v (b_j.out) (by omega) aW.out.2.1).mono ?_
   rintro e v13 ⟨s2b,A2b,n2b,c2b,rfl,hr,hk⟩
   have N1_13:=hJ (hr)
   have bN:=hJ hk
   go_wp2_with fail
   have dJ:=hJ (bt aA.out bN.out)
   have a_13:=hJ ((a_j.out).new bN.out)
   have b_13:=hJ ((b_j.out).new bN.out)
   have N0_13:=hJ (PIo.new N0_j.out bN.out)
   clear hHeld
   refine hK.out _ _ (aD.out _ dJ.out) (fun hHeld=>?_)
   clear hK K hk bN hr aA a_j b_j N0_j
   try simp only [PT]
   exact wpAnyH_cast (by kernel_rfl) (hS s2a A2a n2a c2a s2b A2b n2b c2b v13 dJ a_13 b_13 N0_13 N1_13)
   refine .cons rfl (fun K hK=>?_) ?_
   go_simp
   have bF:=hJ ((Below.refl v.heap.size v).alloc (Nat.le_refl _) (.cells #[.bool false,.slice none 0 0] 25))
   have cO:=hJ (P2.lit v 25 (.bool false) (.slice none 0 0))
   obtain ⟨v14,hV⟩:=nmz (World.alloc v (.cells #[.bool false,.slice none 0 0] 25))
   obtain ⟨gx,hg⟩:=nmz (v.heap.size)
   rw [hV] at bF cO  ⊢
   rw [hg] at cO  ⊢
   have aM:=hJ (show W.heap.size≤gx by rw [←hg]; exact aA.out.size)
   have dK:=hJ (bt aA.out bF.out)
   have a_14:=hJ ((a_j.out).new bF.out)
   have b_14:=hJ ((b_j.out).new bF.out)
   have N0_14:=hJ (PIo.new N0_j.out bF.out)
   clear hHeld
   refine hK.out _ _ (aD.out _ dK.out) (fun hHeld=>?_)
   clear hK K hV hg bF aA a_j b_j N0_j
   try simp only [PT]
   exact wpAnyH_cast (by kernel_rfl) (dZ s2a A2a n2a c2a gx v14 dK a_14 b_14 N0_14 cO (hJ (aM.out)))
   refine .cons rfl (fun K hK=>?_) .nil
   go_simp
   have bG:=hJ ((Below.refl v.heap.size v).alloc (Nat.le_refl _) (.cells #[.bool false,.slice none 0 0] 25))
   have cP:=hJ (P2.lit v 25 (.bool false) (.slice none 0 0))
   obtain ⟨v15,hV⟩:=nmz (World.alloc v (.cells #[.bool false,.slice none 0 0] 25))
   obtain ⟨gy,hg⟩:=nmz (v.heap.size)
   rw [hV] at bG cP  ⊢
   rw [hg] at cP  ⊢
   have aL:=hJ (show W.heap.size≤gy by rw [←hg]; exact aA.out.size)
   have dL:=hJ (bt aA.out bG.out)
   have a_15:=hJ ((a_j.out).new bG.out)
   have b_15:=hJ ((b_j.out).new bG.out)
   have N0_15:=hJ (PIo.new N0_j.out bG.out)
   clear hHeld
   refine hK.out _ _ (aD.out _ dL.out) (fun hHeld=>?_)
   clear hK K hV hg bG aA a_j b_j N0_j
   try simp only [PT]
   exact wpAnyH_cast (by kernel_rfl) (eA s2a A2a n2a c2a gy v15 dL a_15 b_15 N0_15 cP (hJ (aL.out)))
  have J4:∀ (gx:Nat) (v:World),Hid (Below W.heap.size W v)→Hid (PF v sa Aa na ca sb Ab nb cb p q)→Hid (PF v sd Ad nd cd se Ae ne ce r s)→Hid (P2 25 v gx (.bool false) (.slice none 0 0))→Hid (W.heap.size≤gx)→F 5 (Array.setIfInBounds L0 4 true) (Act.put a0 (some 6) (.pointer (some ⟨gx,0,none⟩))) v:=by
   intro gx v aA a_j b_j aB aH
   subst hF ha0 hL0
   simp only [PT] at dZ eB ⊢
   have hHeld:=aD.out _ aA.out
   refine ryy [1,5] ?_
   refine .cons rfl (fun K hK=>?_) ?_
   go_simp
   go_at_call_of 36 (#[Value.agg #[.bool sa,.slice Aa na ca,.bool sb,.slice Ab nb cb]])
   refine (den_any p q sa sb Aa Ab na ca nb cb v (a_j.out) (by omega) aW.out.1).mono ?_
   rintro e v16 ⟨s2a,A2a,n2a,c2a,rfl,hr,hk⟩
   have N0_16:=hJ (hr)
   have bO:=hJ hk
   go_wp2_with fail
   have dM:=hJ (bt aA.out bO.out)
   have a_16:=hJ ((a_j.out).new bO.out)
   have b_16:=hJ ((b_j.out).new bO.out)
   have fZ:=hJ (aB.out.new bO.out)
   clear hHeld
   refine hK.out _ _ (aD.out _ dM.out) (fun hHeld=>?_)
   clear hK K hk bO hr aA a_j b_j aB
   try simp only [PT]
   exact wpAnyH_cast (by kernel_rfl) (dZ s2a A2a n2a c2a gx v16 dM a_16 b_16 N0_16 fZ (hJ (aH.out)))
   refine .cons rfl (fun K hK=>?_) .nil
   go_simp
   have bH:=hJ ((Below.refl v.heap.size v).alloc (Nat.le_refl _) (.cells #[.bool false,.slice none 0 0] 25))
   have cQ:=hJ (P2.lit v 25 (.bool false) (.slice none 0 0))
   obtain ⟨v17,hV⟩:=nmz (World.alloc v (.cells #[.bool false,.slice none 0 0] 25))
   obtain ⟨gy,hg⟩:=nmz (v.heap.size)
   rw [hV] at bH cQ  ⊢
   rw [hg] at cQ  ⊢
   have aL:=hJ (show W.heap.size≤gy by rw [←hg]; exact aA.out.size)
   have bU:=hJ (show gx≠gy by have:=aB.out.lt; rw [hg] at this; omega)
   have dN:=hJ (bt aA.out bH.out)
   have a_17:=hJ ((a_j.out).new bH.out)
   have b_17:=hJ ((b_j.out).new bH.out)
   have gA:=hJ (aB.out.new bH.out)
   clear hHeld
   refine hK.out _ _ (aD.out _ dN.out) (fun hHeld=>?_)
   clear hK K hV hg bH aA a_j b_j aB
   try simp only [PT]
   exact wpAnyH_cast (by kernel_rfl) (eB gx gy v17 dN a_17 b_17 gA (hJ (aH.out)) cQ (hJ (aL.out)) (hJ (bU.out)))
  have J5:∀ (gy:Nat) (v:World),Hid (Below W.heap.size W v)→Hid (PF v sa Aa na ca sb Ab nb cb p q)→Hid (PF v sd Ad nd cd se Ae ne ce r s)→Hid (P2 25 v gy (.bool false) (.slice none 0 0))→Hid (W.heap.size≤gy)→F 5 (Array.setIfInBounds L0 5 true) (Act.put a0 (some 7) (.pointer (some ⟨gy,0,none⟩))) v:=by
   intro gy v aA a_j b_j aC aI
   subst hF ha0 hL0
   simp only [PT] at eA eB ⊢
   have hHeld:=aD.out _ aA.out
   refine ryy [1,4] ?_
   refine .cons rfl (fun K hK=>?_) ?_
   go_simp
   go_at_call_of 36 (#[Value.agg #[.bool sa,.slice Aa na ca,.bool sb,.slice Ab nb cb]])
   refine (den_any p q sa sb Aa Ab na ca nb cb v (a_j.out) (by omega) aW.out.1).mono ?_
   rintro e v18 ⟨s2a,A2a,n2a,c2a,rfl,hr,hk⟩
   have N0_18:=hJ (hr)
   have bP:=hJ hk
   go_wp2_with fail
   have dO:=hJ (bt aA.out bP.out)
   have a_18:=hJ ((a_j.out).new bP.out)
   have b_18:=hJ ((b_j.out).new bP.out)
   have gB:=hJ (aC.out.new bP.out)
   clear hHeld
   refine hK.out _ _ (aD.out _ dO.out) (fun hHeld=>?_)
   clear hK K hk bP hr aA a_j b_j aC
   try simp only [PT]
   exact wpAnyH_cast (by kernel_rfl) (eA s2a A2a n2a c2a gy v18 dO a_18 b_18 N0_18 gB (hJ (aI.out)))
   refine .cons rfl (fun K hK=>?_) .nil
   go_simp
   have bJ:=hJ ((Below.refl v.heap.size v).alloc (Nat.le_refl _) (.cells #[.bool false,.slice none 0 0] 25))
   have cR:=hJ (P2.lit v 25 (.bool false) (.slice none 0 0))
   obtain ⟨v19,hV⟩:=nmz (World.alloc v (.cells #[.bool false,.slice none 0 0] 25))
   obtain ⟨gx,hg⟩:=nmz (v.heap.size)
   rw [hV] at bJ cR  ⊢
   rw [hg] at cR  ⊢
   have aM:=hJ (show W.heap.size≤gx by rw [←hg]; exact aA.out.size)
   have bV:=hJ (show gy≠gx by have:=aC.out.lt; rw [hg] at this; omega)
   have dP:=hJ (bt aA.out bJ.out)
   have a_19:=hJ ((a_j.out).new bJ.out)
   have b_19:=hJ ((b_j.out).new bJ.out)
   have gC:=hJ (aC.out.new bJ.out)
   clear hHeld
   refine hK.out _ _ (aD.out _ dP.out) (fun hHeld=>?_)
   clear hK K hV hg bJ aA a_j b_j aC
   try simp only [PT]
   exact wpAnyH_cast (by kernel_rfl) (eB gx gy v19 dP a_19 b_19 cR (hJ (aM.out)) gC (hJ (aI.out)) (hJ (bV.out.symm)))
  subst hF ha0 hL0
  simp only [PT] at J1 J4 J5
  refine ryy [1,4,5] ?_
  refine .cons rfl (fun K hK=>?_) ?_
  go_simp
  go_at_call_of 36 (#[Value.agg #[.bool sa,.slice Aa na ca,.bool sb,.slice Ab nb cb]])
  refine (den_any p q sa sb Aa Ab na ca nb cb v0 (a_0.out) (by omega) aW.out.1).mono ?_
  rintro e v20 ⟨s2a,A2a,n2a,c2a,rfl,hr,hk⟩
  have N0_20:=hJ (hr)
  have bW:=hJ hk
  go_wp2_with fail
  have dQ:=hJ (bt aF.out bW.out)
  have a_20:=hJ ((a_0.out).new bW.out)
  have b_20:=hJ ((b_0.out).new bW.out)
  clear hHeld
  refine hK.out _ _ (aD.out _ dQ.out) (fun hHeld=>?_)
  clear hK K hk bW hr aF a_0 b_0
  try simp only [PT]
  exact wpAnyH_cast (by kernel_rfl) (J1 s2a A2a n2a c2a v20 dQ a_20 b_20 N0_20)
  refine .cons rfl (fun K hK=>?_) ?_
  go_simp
  have bQ:=hJ ((Below.refl v0.heap.size v0).alloc (Nat.le_refl _) (.cells #[.bool false,.slice none 0 0] 25))
  have cS:=hJ (P2.lit v0 25 (.bool false) (.slice none 0 0))
  obtain ⟨v21,hV⟩:=nmz (World.alloc v0 (.cells #[.bool false,.slice none 0 0] 25))
  obtain ⟨gx,hg⟩:=nmz (v0.heap.size)
  rw [hV] at bQ cS  ⊢
  rw [hg] at cS  ⊢
  have aM:=hJ (show W.heap.size≤gx by rw [←hg]; exact aF.out.size)
  have dR:=hJ (bt aF.out bQ.out)
  have a_21:=hJ ((a_0.out).new bQ.out)
  have b_21:=hJ ((b_0.out).new bQ.out)
  clear hHeld
  refine hK.out _ _ (aD.out _ dR.out) (fun hHeld=>?_)
  clear hK K hV hg bQ aF a_0 b_0
  try simp only [PT]
  exact wpAnyH_cast (by kernel_rfl) (J4 gx v21 dR a_21 b_21 cS (hJ (aM.out)))
  refine .cons rfl (fun K hK=>?_) .nil
  go_simp
  have bR:=hJ ((Below.refl v0.heap.size v0).alloc (Nat.le_refl _) (.cells #[.bool false,.slice none 0 0] 25))
  have cT:=hJ (P2.lit v0 25 (.bool false) (.slice none 0 0))
  obtain ⟨v22,hV⟩:=nmz (World.alloc v0 (.cells #[.bool false,.slice none 0 0] 25))
  obtain ⟨gy,hg⟩:=nmz (v0.heap.size)
  rw [hV] at bR cT  ⊢
  rw [hg] at cT  ⊢
  have aL:=hJ (show W.heap.size≤gy by rw [←hg]; exact aF.out.size)
  have dS:=hJ (bt aF.out bR.out)
  have a_22:=hJ ((a_0.out).new bR.out)
  have b_22:=hJ ((b_0.out).new bR.out)
  clear hHeld
  refine hK.out _ _ (aD.out _ dS.out) (fun hHeld=>?_)
  clear hK K hV hg bR aF a_0 b_0
  try simp only [PT]
  exact wpAnyH_cast (by kernel_rfl) (J5 gy v22 dS a_22 b_22 cT (hJ (aL.out)))
 case rest =>
  obtain ⟨G2,H2,s2a,A2a,n2a,c2a,s2b,A2b,n2b,c2b,rfl,rfl,hq1,hq2,hr1,hr2,hbx⟩:=hcut
  have gE:=hJ hq1
  have gF:=hJ hq2
  have eC:=hJ hr1
  have eD:=hJ hr2
  have cD:=hJ hbx
  obtain ⟨x2,rfl⟩:=nm_world hbx
  clear hq1 hq2 hr1 hr2 hbx aD hR
  have hn2a:n2a≤512:=plim eC.out aW.out.2.2.2.1
  have hn2b:n2b≤512:=plim eD.out aW.out.2.2.2.2.2
  have hT:=hJ (cF.out.new cD.out)
  have hU:=hJ (fL.out.new cD.out)
  have hX:=hJ (cG.out.new cD.out)
  have hY:=hJ (fM.out.new cD.out)
  have hZ:=hJ (fK.out.new cD.out)
  have iA:=hJ (hQ.out.new cD.out)
  have iB:=hJ (bt HK.out cD.out)
  clear cF fL cG fM fK hQ HK cD
  have aT:=hJ (ad_gcd aW.out.1 aW.out.2.1 aW.out.2.2.2.1 aW.out.2.2.2.2.2)
  obtain ⟨clq0_3,clq1_3⟩:=gE.out.cells
  obtain ⟨cls0_3,cls1_3⟩:=gF.out.cells
  go_wp2_with fail
  refine (fcommon_any q s s2a s2b A2a A2b n2a c2a n2b c2b x2 eC.out eD.out (by omega) (by omega)).mono ?_
  rintro e w3 ⟨s3,A3,n3,c3,rfl,hr3,hb3⟩
  obtain ⟨x3,eE⟩:=nmz (w3.alloc (.cells #[.bool s3,.slice A3 n3 c3] 25))
  have bS:=hJ (show Below x2.heap.size x2 x3 by rw [←eE]; exact hb3.alloc hb3.size _)
  have eF:=hJ (show P2 25 x3 w3.heap.size (.bool s3) (.slice A3 n3 c3) by rw [←eE]; exact P2.lit _ _ _ _)
  have eG:=hJ (show PI x3 s3 A3 n3 c3 (adG q s) by rw [←eE]; exact PIo.new hr3 ((Below.refl _ _).alloc (Nat.le_refl _) _))
  have hn3:n3≤512:=plim hr3 (by exact aT.out.2.1)
  clear hr3 hb3
  have iC:=hJ (hT.out.new bS.out)
  have iD:=hJ (hU.out.new bS.out)
  have iE:=hJ (hX.out.new bS.out)
  have iF:=hJ (hY.out.new bS.out)
  have iG:=hJ (hZ.out.new bS.out)
  have iH:=hJ (iA.out.new bS.out)
  have eH:=hJ (gE.out.new bS.out)
  have gG:=hJ (PIo.new eC.out bS.out)
  have eI:=hJ (gF.out.new bS.out)
  have gH:=hJ (PIo.new eD.out bS.out)
  have iI:=hJ (bt iB.out bS.out)
  clear hT hU hX hY hZ iA gE eC gF eD iB clq0_3 clq1_3 cls0_3 cls1_3 bS
  obtain ⟨g,hg⟩:∃ g,adG q s=g:=⟨_,rfl⟩
  rw [hg] at aT eG
  obtain ⟨qp,hqp⟩:∃ x,q / g=x:=⟨_,rfl⟩
  obtain ⟨sp,hsp⟩:∃ x,s / g=x:=⟨_,rfl⟩
  have cE:=hJ (And.intro hg (And.intro hqp hsp))
  rw [hqp,hsp] at aT
  clear hg hqp hsp
  have aE:Hid (∀ w',Below x3.heap.size x3 w'→(fun w':World=>w'.cell? ⟨G2,0,none⟩=some (.bool s2a)∧w'.cell? ⟨G2,1,none⟩=some (.slice A2a n2a c2a)∧w'.cell? ⟨H2,0,none⟩=some (.bool s2b)∧w'.cell? ⟨H2,1,none⟩=some (.slice A2b n2b c2b)∧w'.cell? ⟨w3.heap.size,0,none⟩=some (.bool s3)∧w'.cell? ⟨w3.heap.size,1,none⟩=some (.slice A3 n3 c3)∧Below x3.heap.size x3 w') w'):=hJ (fun w' hb=>⟨(eH.out.new hb).cells.1,(eH.out.new hb).cells.2,(eI.out.new hb).cells.1,(eI.out.new hb).cells.2,(eF.out.new hb).cells.1,(eF.out.new hb).cells.2,hb⟩)
  have iJ:=hJ (Below.refl x3.heap.size x3)
  go_upto_region 3 with fail
  clear eE
  go_cut [9,10] (fun tp tq wx=>∃ (G H:Nat) (s4a:Bool) (A4a:Option Addr) (n4a c4a:Nat) (s4b:Bool) (A4b:Option Addr) (n4b c4b:Nat),tp=.pointer (some ⟨G,0,none⟩)∧tq=.pointer (some ⟨H,0,none⟩)∧P2 25 wx G (.bool s4a) (.slice A4a n4a c4a)∧P2 25 wx H (.bool s4b) (.slice A4b n4b c4b)∧PI wx s4a A4a n4a c4a (q / g)∧PI wx s4b A4b n4b c4b (s / g)∧Below x3.heap.size x3 wx)
  case first =>
   have cH:=iJ
   obtain ⟨v0,hv0⟩:=nmz (World.drew x3)
   have aF:=hJ (show Below x3.heap.size x3 v0 by rw [←hv0]; exact (Below.refl _ _).drew)
   have q_0:=hJ (PIo.new gG.out aF.out)
   have s_0:=hJ (PIo.new gH.out aF.out)
   have g_0:=hJ (PIo.new eG.out aF.out)
   refine wp_region_held_drew (S:=(fun w':World=>w'.cell? ⟨G2,0,none⟩=some (.bool s2a)∧w'.cell? ⟨G2,1,none⟩=some (.slice A2a n2a c2a)∧w'.cell? ⟨H2,0,none⟩=some (.bool s2b)∧w'.cell? ⟨H2,1,none⟩=some (.slice A2b n2b c2b)∧w'.cell? ⟨w3.heap.size,0,none⟩=some (.bool s3)∧w'.cell? ⟨w3.heap.size,1,none⟩=some (.slice A3 n3 c3)∧Below x3.heap.size x3 w')) (by kernel_rfl) ?_ (fun hHeld=>?_)
   ·rw [hv0]
    exact aE.out _ aF.out
   rw [hv0] at hHeld ⊢
   clear hv0 cH
   refine tq 0 ?_
   refine tq 1 ?_
   refine tq 3 ?_
   refine tq 4 ?_
   try simp only [PT]
   refine wpAnyH_name (fun F hF a0 ha0 L0 hL0=>?_)
   have cX:∀ (s4a:Bool) (A4a:Option Addr) (n4a:Nat) (c4a:Nat) (s4b:Bool) (A4b:Option Addr) (n4b:Nat) (c4b:Nat) (gx:Nat) (gy:Nat) (v:World),Hid (Below x3.heap.size x3 v)→Hid (PI v s2a A2a n2a c2a (q))→Hid (PI v s2b A2b n2b c2b (s))→Hid (PI v s3 A3 n3 c3 (g))→Hid (PI v s4a A4a n4a c4a (q / g))→Hid (PI v s4b A4b n4b c4b (s / g))→Hid (P2 25 v gx (.bool false) (.slice none 0 0))→Hid (x3.heap.size≤gx)→Hid (P2 25 v gy (.bool false) (.slice none 0 0))→Hid (x3.heap.size≤gy)→Hid (gx≠gy)→F 2 (Array.setIfInBounds (Array.setIfInBounds (Array.setIfInBounds (Array.setIfInBounds L0 2 true) 5 true) 6 true) 7 true) (Act.put (Act.put (Act.put (Act.put a0 (some 30) (.agg #[.bool s4a,.slice A4a n4a c4a])) (some 33) (.agg #[.bool s4b,.slice A4b n4b c4b])) (some 9) (.pointer (some ⟨gx,0,none⟩))) (some 10) (.pointer (some ⟨gy,0,none⟩))) v:=by
    intro s4a A4a n4a c4a s4b A4b n4b c4b gx gy v aA q_j s_j g_j N0_j N1_j aB aH aC aI bM
    subst hF ha0 hL0
    simp only [PT] at  ⊢
    have hHeld:=aE.out _ aA.out
    refine ryy [8] ?_
    refine .cons rfl (fun K hK=>?_) .nil
    obtain ⟨z0,z1⟩:=aB.out.cells
    have y0:=aB.out.frozen 0
    have y1:=aB.out.frozen 1
    have z9:=aB.out.lt
    go_simp
    obtain ⟨v1,hV⟩:=nmz (World.setCell (World.setCell v ⟨gx,0,none⟩ (.bool s4a)) ⟨gx,1,none⟩ (.slice A4a n4a c4a))
    rw [hV]
    have bT:=hJ (show Below x3.heap.size x3 v1 by rw [←hV]; exact below_box aA.out (aH.out) _ _)
    have q_1:=hJ (show PI v1 s2a A2a n2a c2a (q) by rw [←hV]; exact PIo.box (q_j.out) (aB.out) rfl rfl (.bool s4a) (.slice A4a n4a c4a))
    have s_1:=hJ (show PI v1 s2b A2b n2b c2b (s) by rw [←hV]; exact PIo.box (s_j.out) (aB.out) rfl rfl (.bool s4a) (.slice A4a n4a c4a))
    have g_1:=hJ (show PI v1 s3 A3 n3 c3 (g) by rw [←hV]; exact PIo.box (g_j.out) (aB.out) rfl rfl (.bool s4a) (.slice A4a n4a c4a))
    have N0_1:=hJ (show PI v1 s4a A4a n4a c4a (q / g) by rw [←hV]; exact PIo.box (N0_j.out) (aB.out) rfl rfl (.bool s4a) (.slice A4a n4a c4a))
    have N1_1:=hJ (show PI v1 s4b A4b n4b c4b (s / g) by rw [←hV]; exact PIo.box (N1_j.out) (aB.out) rfl rfl (.bool s4a) (.slice A4a n4a c4a))
    have aN:=hJ (show P2 25 v1 gy (.bool false) (.slice none 0 0) by rw [←hV]; exact aC.out.far2 (show gy≠gx from bM.out.symm) (.bool s4a) (.slice A4a n4a c4a))
    have cZ:=hJ (show P2 25 v1 gx (.bool s4a) (.slice A4a n4a c4a) by rw [←hV]; exact aB.out.all (.bool s4a) (.slice A4a n4a c4a))
    clear hHeld
    refine hK.out _ _ (aE.out _ bT.out) (fun hHeld=>?_)
    clear hK K hV z9 z0 z1 y0 y1 aA q_j s_j g_j N0_j N1_j aC aB
    try simp only [PT]
    refine ryy [9] ?_
    refine .cons rfl (fun K hK=>?_) .nil
    obtain ⟨z0,z1⟩:=aN.out.cells
    have y0:=aN.out.frozen 0
    have y1:=aN.out.frozen 1
    have z9:=aN.out.lt
    go_simp
    obtain ⟨v2,hV⟩:=nmz (World.setCell (World.setCell v1 ⟨gy,0,none⟩ (.bool s4b)) ⟨gy,1,none⟩ (.slice A4b n4b c4b))
    rw [hV]
    have bY:=hJ (show Below x3.heap.size x3 v2 by rw [←hV]; exact below_box bT.out (aI.out) _ _)
    have q_2:=hJ (show PI v2 s2a A2a n2a c2a (q) by rw [←hV]; exact PIo.box (q_1.out) (aN.out) rfl rfl (.bool s4b) (.slice A4b n4b c4b))
    have s_2:=hJ (show PI v2 s2b A2b n2b c2b (s) by rw [←hV]; exact PIo.box (s_1.out) (aN.out) rfl rfl (.bool s4b) (.slice A4b n4b c4b))
    have g_2:=hJ (show PI v2 s3 A3 n3 c3 (g) by rw [←hV]; exact PIo.box (g_1.out) (aN.out) rfl rfl (.bool s4b) (.slice A4b n4b c4b))
    have N0_2:=hJ (show PI v2 s4a A4a n4a c4a (q / g) by rw [←hV]; exact PIo.box (N0_1.out) (aN.out) rfl rfl (.bool s4b) (.slice A4b n4b c4b))
    have N1_2:=hJ (show PI v2 s4b A4b n4b c4b (s / g) by rw [←hV]; exact PIo.box (N1_1.out) (aN.out) rfl rfl (.bool s4b) (.slice A4b n4b c4b))
    have fN:=hJ (show P2 25 v2 gx (.bool s4a) (.slice A4a n4a c4a) by rw [←hV]; exact cZ.out.far2 (show gx≠gy from bM.out) (.bool s4b) (.slice A4b n4b c4b))
    have fO:=hJ (show P2 25 v2 gy (.bool s4b) (.slice A4b n4b c4b) by rw [←hV]; exact aN.out.all (.bool s4b) (.slice A4b n4b c4b))
    clear hHeld
    refine hK.out _ _ (aE.out _ bY.out) (fun hHeld=>?_)
    clear hK K hV z9 z0 z1 y0 y1 bT q_1 s_1 g_1 N0_1 N1_1 cZ aN
    try simp only [PT]
    refine wpAnyH_done (by kernel_rfl) ?_ _
    clear hHeld
    go_wp2_with fail
    go_meet
    exact ⟨gx,gy,s4a,A4a,n4a,c4a,s4b,A4b,n4b,c4b,rfl,rfl,fN.out,fO.out,N0_2.out,N1_2.out,bY.out⟩
   have eJ:∀ (s4a:Bool) (A4a:Option Addr) (n4a:Nat) (c4a:Nat) (s4b:Bool) (A4b:Option Addr) (n4b:Nat) (c4b:Nat) (gx:Nat) (v:World),Hid (Below x3.heap.size x3 v)→Hid (PI v s2a A2a n2a c2a (q))→Hid (PI v s2b A2b n2b c2b (s))→Hid (PI v s3 A3 n3 c3 (g))→Hid (PI v s4a A4a n4a c4a (q / g))→Hid (PI v s4b A4b n4b c4b (s / g))→Hid (P2 25 v gx (.bool false) (.slice none 0 0))→Hid (x3.heap.size≤gx)→F 3 (Array.setIfInBounds (Array.setIfInBounds (Array.setIfInBounds L0 2 true) 5 true) 6 true) (Act.put (Act.put (Act.put a0 (some 30) (.agg #[.bool s4a,.slice A4a n4a c4a])) (some 33) (.agg #[.bool s4b,.slice A4b n4b c4b])) (some 9) (.pointer (some ⟨gx,0,none⟩))) v:=by
    intro s4a A4a n4a c4a s4b A4b n4b c4b gx v aA q_j s_j g_j N0_j N1_j aB aH
    subst hF ha0 hL0
    simp only [PT] at cX ⊢
    have hHeld:=aE.out _ aA.out
    refine ryy [7] ?_
    refine .cons rfl (fun K hK=>?_) .nil
    go_simp
    have aG:=hJ ((Below.refl v.heap.size v).alloc (Nat.le_refl _) (.cells #[.bool false,.slice none 0 0] 25))
    have cI:=hJ (P2.lit v 25 (.bool false) (.slice none 0 0))
    obtain ⟨v3,hV⟩:=nmz (World.alloc v (.cells #[.bool false,.slice none 0 0] 25))
    obtain ⟨gy,hg⟩:=nmz (v.heap.size)
    rw [hV] at aG cI  ⊢
    rw [hg] at cI  ⊢
    have aL:=hJ (show x3.heap.size≤gy by rw [←hg]; exact aA.out.size)
    have bU:=hJ (show gx≠gy by have:=aB.out.lt; rw [hg] at this; omega)
    have bZ:=hJ (bt aA.out aG.out)
    have q_3:=hJ (PIo.new q_j.out aG.out)
    have s_3:=hJ (PIo.new s_j.out aG.out)
    have g_3:=hJ (PIo.new g_j.out aG.out)
    have N0_3:=hJ (PIo.new N0_j.out aG.out)
    have N1_3:=hJ (PIo.new N1_j.out aG.out)
    have fP:=hJ (aB.out.new aG.out)
    clear hHeld
    refine hK.out _ _ (aE.out _ bZ.out) (fun hHeld=>?_)
    clear hK K hV hg aG aA q_j s_j g_j N0_j N1_j aB
    try simp only [PT]
    exact wpAnyH_cast (by kernel_rfl) (cX s4a A4a n4a c4a s4b A4b n4b c4b gx gy v3 bZ q_3 s_3 g_3 N0_3 N1_3 fP (hJ (aH.out)) cI (hJ (aL.out)) (hJ (bU.out)))
   have eK:∀ (s4a:Bool) (A4a:Option Addr) (n4a:Nat) (c4a:Nat) (s4b:Bool) (A4b:Option Addr) (n4b:Nat) (c4b:Nat) (gy:Nat) (v:World),Hid (Below x3.heap.size x3 v)→Hid (PI v s2a A2a n2a c2a (q))→Hid (PI v s2b A2b n2b c2b (s))→Hid (PI v s3 A3 n3 c3 (g))→Hid (PI v s4a A4a n4a c4a (q / g))→Hid (PI v s4b A4b n4b c4b (s / g))→Hid (P2 25 v gy (.bool false) (.slice none 0 0))→Hid (x3.heap.size≤gy)→F 3 (Array.setIfInBounds (Array.setIfInBounds (Array.setIfInBounds L0 2 true) 5 true) 7 true) (Act.put (Act.put (Act.put a0 (some 30) (.agg #[.bool s4a,.slice A4a n4a c4a])) (some 33) (.agg #[.bool s4b,.slice A4b n4b c4b])) (some 10) (.pointer (some ⟨gy,0,none⟩))) v:=by
    intro s4a A4a n4a c4a s4b A4b n4b c4b gy v aA q_j s_j g_j N0_j N1_j aC aI
    subst hF ha0 hL0
    simp only [PT] at cX ⊢
    have hHeld:=aE.out _ aA.out
    refine ryy [6] ?_
    refine .cons rfl (fun K hK=>?_) .nil
    go_simp
    have aS:=hJ ((Below.refl v.heap.size v).alloc (Nat.le_refl _) (.cells #[.bool false,.slice none 0 0] 25))
    have cJ:=hJ (P2.lit v 25 (.bool false) (.slice none 0 0))
    obtain ⟨v4,hV⟩:=nmz (World.alloc v (.cells #[.bool false,.slice none 0 0] 25))
    obtain ⟨gx,hg⟩:=nmz (v.heap.size)
    rw [hV] at aS cJ  ⊢
    rw [hg] at cJ  ⊢
    have aM:=hJ (show x3.heap.size≤gx by rw [←hg]; exact aA.out.size)
    have bV:=hJ (show gy≠gx by have:=aC.out.lt; rw [hg] at this; omega)
    have cC:=hJ (bt aA.out aS.out)
    have q_4:=hJ (PIo.new q_j.out aS.out)
    have s_4:=hJ (PIo.new s_j.out aS.out)
    have g_4:=hJ (PIo.new g_j.out aS.out)
    have N0_4:=hJ (PIo.new N0_j.out aS.out)
    have N1_4:=hJ (PIo.new N1_j.out aS.out)
    have fQ:=hJ (aC.out.new aS.out)
    clear hHeld
    refine hK.out _ _ (aE.out _ cC.out) (fun hHeld=>?_)
    clear hK K hV hg aS aA q_j s_j g_j N0_j N1_j aC
    try simp only [PT]
    exact wpAnyH_cast (by kernel_rfl) (cX s4a A4a n4a c4a s4b A4b n4b c4b gx gy v4 cC q_4 s_4 g_4 N0_4 N1_4 cJ (hJ (aM.out)) fQ (hJ (aI.out)) (hJ (bV.out.symm)))
   have cY:∀ (s4a:Bool) (A4a:Option Addr) (n4a:Nat) (c4a:Nat) (gx:Nat) (gy:Nat) (v:World),Hid (Below x3.heap.size x3 v)→Hid (PI v s2a A2a n2a c2a (q))→Hid (PI v s2b A2b n2b c2b (s))→Hid (PI v s3 A3 n3 c3 (g))→Hid (PI v s4a A4a n4a c4a (q / g))→Hid (P2 25 v gx (.bool false) (.slice none 0 0))→Hid (x3.heap.size≤gx)→Hid (P2 25 v gy (.bool false) (.slice none 0 0))→Hid (x3.heap.size≤gy)→Hid (gx≠gy)→F 3 (Array.setIfInBounds (Array.setIfInBounds (Array.setIfInBounds L0 2 true) 6 true) 7 true) (Act.put (Act.put (Act.put a0 (some 30) (.agg #[.bool s4a,.slice A4a n4a c4a])) (some 9) (.pointer (some ⟨gx,0,none⟩))) (some 10) (.pointer (some ⟨gy,0,none⟩))) v:=by
    intro s4a A4a n4a c4a gx gy v aA q_j s_j g_j N0_j aB aH aC aI bM
    subst hF ha0 hL0
    simp only [PT] at cX ⊢
    have hHeld:=aE.out _ aA.out
    refine ryy [5] ?_
    refine .cons rfl (fun K hK=>?_) .nil
    go_simp
    go_at_call_of 117 (#[Value.agg #[.bool s2b,.slice A2b n2b c2b],Value.agg #[.bool s3,.slice A3 n3 c3]])
    refine (fdivided_any s g s2b s3 A2b A3 n2b c2b n3 c3 v (s_j.out) (g_j.out) (by omega) (by omega) aT.out.1).mono ?_
    rintro e v5 ⟨s4b,A4b,n4b,c4b,rfl,hr,hk⟩
    have N1_5:=hJ (hr)
    have aX:=hJ hk
    go_wp2_with fail
    have dA:=hJ (bt aA.out aX.out)
    have q_5:=hJ (PIo.new q_j.out aX.out)
    have s_5:=hJ (PIo.new s_j.out aX.out)
    have g_5:=hJ (PIo.new g_j.out aX.out)
    have N0_5:=hJ (PIo.new N0_j.out aX.out)
    have fR:=hJ (aB.out.new aX.out)
    have fS:=hJ (aC.out.new aX.out)
    clear hHeld
    refine hK.out _ _ (aE.out _ dA.out) (fun hHeld=>?_)
    clear hK K hk aX hr aA q_j s_j g_j N0_j aB aC
    try simp only [PT]
    exact wpAnyH_cast (by kernel_rfl) (cX s4a A4a n4a c4a s4b A4b n4b c4b gx gy v5 dA q_5 s_5 g_5 N0_5 N1_5 fR (hJ (aH.out)) fS (hJ (aI.out)) (hJ (bM.out)))
   have iK:∀ (s4a:Bool) (A4a:Option Addr) (n4a:Nat) (c4a:Nat) (s4b:Bool) (A4b:Option Addr) (n4b:Nat) (c4b:Nat) (v:World),Hid (Below x3.heap.size x3 v)→Hid (PI v s2a A2a n2a c2a (q))→Hid (PI v s2b A2b n2b c2b (s))→Hid (PI v s3 A3 n3 c3 (g))→Hid (PI v s4a A4a n4a c4a (q / g))→Hid (PI v s4b A4b n4b c4b (s / g))→F 4 (Array.setIfInBounds (Array.setIfInBounds L0 2 true) 5 true) (Act.put (Act.put a0 (some 30) (.agg #[.bool s4a,.slice A4a n4a c4a])) (some 33) (.agg #[.bool s4b,.slice A4b n4b c4b])) v:=by
    intro s4a A4a n4a c4a s4b A4b n4b c4b v aA q_j s_j g_j N0_j N1_j
    subst hF ha0 hL0
    simp only [PT] at eJ eK ⊢
    have hHeld:=aE.out _ aA.out
    refine ryy [6,7] ?_
    refine .cons rfl (fun K hK=>?_) ?_
    go_simp
    have aY:=hJ ((Below.refl v.heap.size v).alloc (Nat.le_refl _) (.cells #[.bool false,.slice none 0 0] 25))
    have cK:=hJ (P2.lit v 25 (.bool false) (.slice none 0 0))
    obtain ⟨v6,hV⟩:=nmz (World.alloc v (.cells #[.bool false,.slice none 0 0] 25))
    obtain ⟨gx,hg⟩:=nmz (v.heap.size)
    rw [hV] at aY cK  ⊢
    rw [hg] at cK  ⊢
    have aM:=hJ (show x3.heap.size≤gx by rw [←hg]; exact aA.out.size)
    have dB:=hJ (bt aA.out aY.out)
    have q_6:=hJ (PIo.new q_j.out aY.out)
    have s_6:=hJ (PIo.new s_j.out aY.out)
    have g_6:=hJ (PIo.new g_j.out aY.out)
    have N0_6:=hJ (PIo.new N0_j.out aY.out)
    have N1_6:=hJ (PIo.new N1_j.out aY.out)
    clear hHeld
    refine hK.out _ _ (aE.out _ dB.out) (fun hHeld=>?_)
    clear hK K hV hg aY aA q_j s_j g_j N0_j N1_j
    try simp only [PT]
    exact wpAnyH_cast (by kernel_rfl) (eJ s4a A4a n4a c4a s4b A4b n4b c4b gx v6 dB q_6 s_6 g_6 N0_6 N1_6 cK (hJ (aM.out)))
    refine .cons rfl (fun K hK=>?_) .nil
    go_simp
    have aZ:=hJ ((Below.refl v.heap.size v).alloc (Nat.le_refl _) (.cells #[.bool false,.slice none 0 0] 25))
    have cL:=hJ (P2.lit v 25 (.bool false) (.slice none 0 0))
    obtain ⟨v7,hV⟩:=nmz (World.alloc v (.cells #[.bool false,.slice none 0 0] 25))
    obtain ⟨gy,hg⟩:=nmz (v.heap.size)
    rw [hV] at aZ cL  ⊢
    rw [hg] at cL  ⊢
    have aL:=hJ (show x3.heap.size≤gy by rw [←hg]; exact aA.out.size)
    have dD:=hJ (bt aA.out aZ.out)
    have q_7:=hJ (PIo.new q_j.out aZ.out)
    have s_7:=hJ (PIo.new s_j.out aZ.out)
    have g_7:=hJ (PIo.new g_j.out aZ.out)
    have N0_7:=hJ (PIo.new N0_j.out aZ.out)
    have N1_7:=hJ (PIo.new N1_j.out aZ.out)
    clear hHeld
    refine hK.out _ _ (aE.out _ dD.out) (fun hHeld=>?_)
    clear hK K hV hg aZ aA q_j s_j g_j N0_j N1_j
    try simp only [PT]
    exact wpAnyH_cast (by kernel_rfl) (eK s4a A4a n4a c4a s4b A4b n4b c4b gy v7 dD q_7 s_7 g_7 N0_7 N1_7 cL (hJ (aL.out)))
   have eL:∀ (s4a:Bool) (A4a:Option Addr) (n4a:Nat) (c4a:Nat) (gx:Nat) (v:World),Hid (Below x3.heap.size x3 v)→Hid (PI v s2a A2a n2a c2a (q))→Hid (PI v s2b A2b n2b c2b (s))→Hid (PI v s3 A3 n3 c3 (g))→Hid (PI v s4a A4a n4a c4a (q / g))→Hid (P2 25 v gx (.bool false) (.slice none 0 0))→Hid (x3.heap.size≤gx)→F 4 (Array.setIfInBounds (Array.setIfInBounds L0 2 true) 6 true) (Act.put (Act.put a0 (some 30) (.agg #[.bool s4a,.slice A4a n4a c4a])) (some 9) (.pointer (some ⟨gx,0,none⟩))) v:=by
    intro s4a A4a n4a c4a gx v aA q_j s_j g_j N0_j aB aH
    subst hF ha0 hL0
    simp only [PT] at eJ cY ⊢
    have hHeld:=aE.out _ aA.out
    refine ryy [5,7] ?_
    refine .cons rfl (fun K hK=>?_) ?_
    go_simp
    go_at_call_of 117 (#[Value.agg #[.bool s2b,.slice A2b n2b c2b],Value.agg #[.bool s3,.slice A3 n3 c3]])
    refine (fdivided_any s g s2b s3 A2b A3 n2b c2b n3 c3 v (s_j.out) (g_j.out) (by omega) (by omega) aT.out.1).mono ?_
    rintro e v8 ⟨s4b,A4b,n4b,c4b,rfl,hr,hk⟩
    have N1_8:=hJ (hr)
    have bC:=hJ hk
    go_wp2_with fail
    have dE:=hJ (bt aA.out bC.out)
    have q_8:=hJ (PIo.new q_j.out bC.out)
    have s_8:=hJ (PIo.new s_j.out bC.out)
    have g_8:=hJ (PIo.new g_j.out bC.out)
    have N0_8:=hJ (PIo.new N0_j.out bC.out)
    have fT:=hJ (aB.out.new bC.out)
    clear hHeld
    refine hK.out _ _ (aE.out _ dE.out) (fun hHeld=>?_)
    clear hK K hk bC hr aA q_j s_j g_j N0_j aB
    try simp only [PT]
    exact wpAnyH_cast (by kernel_rfl) (eJ s4a A4a n4a c4a s4b A4b n4b c4b gx v8 dE q_8 s_8 g_8 N0_8 N1_8 fT (hJ (aH.out)))
    refine .cons rfl (fun K hK=>?_) .nil
    go_simp
    have bA:=hJ ((Below.refl v.heap.size v).alloc (Nat.le_refl _) (.cells #[.bool false,.slice none 0 0] 25))
    have cM:=hJ (P2.lit v 25 (.bool false) (.slice none 0 0))
    obtain ⟨v9,hV⟩:=nmz (World.alloc v (.cells #[.bool false,.slice none 0 0] 25))
    obtain ⟨gy,hg⟩:=nmz (v.heap.size)
    rw [hV] at bA cM  ⊢
    rw [hg] at cM  ⊢
    have aL:=hJ (show x3.heap.size≤gy by rw [←hg]; exact aA.out.size)
    have bU:=hJ (show gx≠gy by have:=aB.out.lt; rw [hg] at this; omega)
    have dF:=hJ (bt aA.out bA.out)
    have q_9:=hJ (PIo.new q_j.out bA.out)
    have s_9:=hJ (PIo.new s_j.out bA.out)
    have g_9:=hJ (PIo.new g_j.out bA.out)
    have N0_9:=hJ (PIo.new N0_j.out bA.out)
    have fU:=hJ (aB.out.new bA.out)
    clear hHeld
    refine hK.out _ _ (aE.out _ dF.out) (fun hHeld=>?_)
    clear hK K hV hg bA aA q_j s_j g_j N0_j aB
    try simp only [PT]
    exact wpAnyH_cast (by kernel_rfl) (cY s4a A4a n4a c4a gx gy v9 dF q_9 s_9 g_9 N0_9 fU (hJ (aH.out)) cM (hJ (aL.out)) (hJ (bU.out)))
   have eM:∀ (s4a:Bool) (A4a:Option Addr) (n4a:Nat) (c4a:Nat) (gy:Nat) (v:World),Hid (Below x3.heap.size x3 v)→Hid (PI v s2a A2a n2a c2a (q))→Hid (PI v s2b A2b n2b c2b (s))→Hid (PI v s3 A3 n3 c3 (g))→Hid (PI v s4a A4a n4a c4a (q / g))→Hid (P2 25 v gy (.bool false) (.slice none 0 0))→Hid (x3.heap.size≤gy)→F 4 (Array.setIfInBounds (Array.setIfInBounds L0 2 true) 7 true) (Act.put (Act.put a0 (some 30) (.agg #[.bool s4a,.slice A4a n4a c4a])) (some 10) (.pointer (some ⟨gy,0,none⟩))) v:=by
    intro s4a A4a n4a c4a gy v aA q_j s_j g_j N0_j aC aI
    subst hF ha0 hL0
    simp only [PT] at eK cY ⊢
    have hHeld:=aE.out _ aA.out
    refine ryy [5,6] ?_
    refine .cons rfl (fun K hK=>?_) ?_
    go_simp
    go_at_call_of 117 (#[Value.agg #[.bool s2b,.slice A2b n2b c2b],Value.agg #[.bool s3,.slice A3 n3 c3]])
    refine (fdivided_any s g s2b s3 A2b A3 n2b c2b n3 c3 v (s_j.out) (g_j.out) (by omega) (by omega) aT.out.1).mono ?_
    rintro e v10 ⟨s4b,A4b,n4b,c4b,rfl,hr,hk⟩
    have N1_10:=hJ (hr)
    have bD:=hJ hk
    go_wp2_with fail
    have dG:=hJ (bt aA.out bD.out)
    have q_10:=hJ (PIo.new q_j.out bD.out)
    have s_10:=hJ (PIo.new s_j.out bD.out)
    have g_10:=hJ (PIo.new g_j.out bD.out)
    have N0_10:=hJ (PIo.new N0_j.out bD.out)
    have fV:=hJ (aC.out.new bD.out)
    clear hHeld
    refine hK.out _ _ (aE.out _ dG.out) (fun hHeld=>?_)
    clear hK K hk bD hr aA q_j s_j g_j N0_j aC
    try simp only [PT]
    exact wpAnyH_cast (by kernel_rfl) (eK s4a A4a n4a c4a s4b A4b n4b c4b gy v10 dG q_10 s_10 g_10 N0_10 N1_10 fV (hJ (aI.out)))
    refine .cons rfl (fun K hK=>?_) .nil
    go_simp
    have bB:=hJ ((Below.refl v.heap.size v).alloc (Nat.le_refl _) (.cells #[.bool false,.slice none 0 0] 25))
    have cN:=hJ (P2.lit v 25 (.bool false) (.slice none 0 0))
    obtain ⟨v11,hV⟩:=nmz (World.alloc v (.cells #[.bool false,.slice none 0 0] 25))
    obtain ⟨gx,hg⟩:=nmz (v.heap.size)
    rw [hV] at bB cN  ⊢
    rw [hg] at cN  ⊢
    have aM:=hJ (show x3.heap.size≤gx by rw [←hg]; exact aA.out.size)
    have bV:=hJ (show gy≠gx by have:=aC.out.lt; rw [hg] at this; omega)
    have dH:=hJ (bt aA.out bB.out)
    have q_11:=hJ (PIo.new q_j.out bB.out)
    have s_11:=hJ (PIo.new s_j.out bB.out)
    have g_11:=hJ (PIo.new g_j.out bB.out)
    have N0_11:=hJ (PIo.new N0_j.out bB.out)
    have fW:=hJ (aC.out.new bB.out)
    clear hHeld
    refine hK.out _ _ (aE.out _ dH.out) (fun hHeld=>?_)
    clear hK K hV hg bB aA q_j s_j g_j N0_j aC
    try simp only [PT]
    exact wpAnyH_cast (by kernel_rfl) (cY s4a A4a n4a c4a gx gy v11 dH q_11 s_11 g_11 N0_11 cN (hJ (aM.out)) fW (hJ (aI.out)) (hJ (bV.out.symm)))
   have eN:∀ (gx:Nat) (gy:Nat) (v:World),Hid (Below x3.heap.size x3 v)→Hid (PI v s2a A2a n2a c2a (q))→Hid (PI v s2b A2b n2b c2b (s))→Hid (PI v s3 A3 n3 c3 (g))→Hid (P2 25 v gx (.bool false) (.slice none 0 0))→Hid (x3.heap.size≤gx)→Hid (P2 25 v gy (.bool false) (.slice none 0 0))→Hid (x3.heap.size≤gy)→Hid (gx≠gy)→F 4 (Array.setIfInBounds (Array.setIfInBounds L0 6 true) 7 true) (Act.put (Act.put a0 (some 9) (.pointer (some ⟨gx,0,none⟩))) (some 10) (.pointer (some ⟨gy,0,none⟩))) v:=by
    intro gx gy v aA q_j s_j g_j aB aH aC aI bM
    subst hF ha0 hL0
    simp only [PT] at cY ⊢
    have hHeld:=aE.out _ aA.out
    refine ryy [2] ?_
    refine .cons rfl (fun K hK=>?_) .nil
    go_simp
    go_at_call_of 117 (#[Value.agg #[.bool s2a,.slice A2a n2a c2a],Value.agg #[.bool s3,.slice A3 n3 c3]])
    refine (fdivided_any q g s2a s3 A2a A3 n2a c2a n3 c3 v (q_j.out) (g_j.out) (by omega) (by omega) aT.out.1).mono ?_
    rintro e v12 ⟨s4a,A4a,n4a,c4a,rfl,hr,hk⟩
    have N0_12:=hJ (hr)
    have bE:=hJ hk
    go_wp2_with fail
    have dI:=hJ (bt aA.out bE.out)
    have q_12:=hJ (PIo.new q_j.out bE.out)
    have s_12:=hJ (PIo.new s_j.out bE.out)
    have g_12:=hJ (PIo.new g_j.out bE.out)
    have fX:=hJ (aB.out.new bE.out)
    have fY:=hJ (aC.out.new bE.out)
    clear hHeld
    refine hK.out _ _ (aE.out _ dI.out) (fun hHeld=>?_)
    clear hK K hk bE hr aA q_j s_j g_j aB aC
    try simp only [PT]
    exact wpAnyH_cast (by kernel_rfl) (cY s4a A4a n4a c4a gx gy v12 dI q_12 s_12 g_12 N0_12 fX (hJ (aH.out)) fY (hJ (aI.out)) (hJ (bM.out)))
   have J2:∀ (s4a:Bool) (A4a:Option Addr) (n4a:Nat) (c4a:Nat) (v:World),Hid (Below x3.heap.size x3 v)→Hid (PI v s2a A2a n2a c2a (q))→Hid (PI v s2b A2b n2b c2b (s))→Hid (PI v s3 A3 n3 c3 (g))→Hid (PI v s4a A4a n4a c4a (q / g))→F 5 (Array.setIfInBounds L0 2 true) (Act.put a0 (some 30) (.agg #[.bool s4a,.slice A4a n4a c4a])) v:=by
    intro s4a A4a n4a c4a v aA q_j s_j g_j N0_j
    subst hF ha0 hL0
    simp only [PT] at iK eL eM ⊢
    have hHeld:=aE.out _ aA.out
    refine ryy [5,6,7] ?_
    refine .cons rfl (fun K hK=>?_) ?_
    go_simp
    go_at_call_of 117 (#[Value.agg #[.bool s2b,.slice A2b n2b c2b],Value.agg #[.bool s3,.slice A3 n3 c3]])
    refine (fdivided_any s g s2b s3 A2b A3 n2b c2b n3 c3 v (s_j.out) (g_j.out) (by omega) (by omega) aT.out.1).mono ?_
    rintro e v13 ⟨s4b,A4b,n4b,c4b,rfl,hr,hk⟩
    have N1_13:=hJ (hr)
    have bN:=hJ hk
    go_wp2_with fail
    have dJ:=hJ (bt aA.out bN.out)
    have q_13:=hJ (PIo.new q_j.out bN.out)
    have s_13:=hJ (PIo.new s_j.out bN.out)
    have g_13:=hJ (PIo.new g_j.out bN.out)
    have N0_13:=hJ (PIo.new N0_j.out bN.out)
    clear hHeld
    refine hK.out _ _ (aE.out _ dJ.out) (fun hHeld=>?_)
    clear hK K hk bN hr aA q_j s_j g_j N0_j
    try simp only [PT]
    exact wpAnyH_cast (by kernel_rfl) (iK s4a A4a n4a c4a s4b A4b n4b c4b v13 dJ q_13 s_13 g_13 N0_13 N1_13)
    refine .cons rfl (fun K hK=>?_) ?_
    go_simp
    have bF:=hJ ((Below.refl v.heap.size v).alloc (Nat.le_refl _) (.cells #[.bool false,.slice none 0 0] 25))
    have cO:=hJ (P2.lit v 25 (.bool false) (.slice none 0 0))
    obtain ⟨v14,hV⟩:=nmz (World.alloc v (.cells #[.bool false,.slice none 0 0] 25))
    obtain ⟨gx,hg⟩:=nmz (v.heap.size)
    rw [hV] at bF cO  ⊢
    rw [hg] at cO  ⊢
    have aM:=hJ (show x3.heap.size≤gx by rw [←hg]; exact aA.out.size)
    have dK:=hJ (bt aA.out bF.out)
    have q_14:=hJ (PIo.new q_j.out bF.out)
    have s_14:=hJ (PIo.new s_j.out bF.out)
    have g_14:=hJ (PIo.new g_j.out bF.out)
    have N0_14:=hJ (PIo.new N0_j.out bF.out)
    clear hHeld
    refine hK.out _ _ (aE.out _ dK.out) (fun hHeld=>?_)
    clear hK K hV hg bF aA q_j s_j g_j N0_j
    try simp only [PT]
    exact wpAnyH_cast (by kernel_rfl) (eL s4a A4a n4a c4a gx v14 dK q_14 s_14 g_14 N0_14 cO (hJ (aM.out)))
    refine .cons rfl (fun K hK=>?_) .nil
    go_simp
    have bG:=hJ ((Below.refl v.heap.size v).alloc (Nat.le_refl _) (.cells #[.bool false,.slice none 0 0] 25))
    have cP:=hJ (P2.lit v 25 (.bool false) (.slice none 0 0))
    obtain ⟨v15,hV⟩:=nmz (World.alloc v (.cells #[.bool false,.slice none 0 0] 25))
    obtain ⟨gy,hg⟩:=nmz (v.heap.size)
    rw [hV] at bG cP  ⊢
    rw [hg] at cP  ⊢
    have aL:=hJ (show x3.heap.size≤gy by rw [←hg]; exact aA.out.size)
    have dL:=hJ (bt aA.out bG.out)
    have q_15:=hJ (PIo.new q_j.out bG.out)
    have s_15:=hJ (PIo.new s_j.out bG.out)
    have g_15:=hJ (PIo.new g_j.out bG.out)
    have N0_15:=hJ (PIo.new N0_j.out bG.out)
    clear hHeld
    refine hK.out _ _ (aE.out _ dL.out) (fun hHeld=>?_)
    clear hK K hV hg bG aA q_j s_j g_j N0_j
    try simp only [PT]
    exact wpAnyH_cast (by kernel_rfl) (eM s4a A4a n4a c4a gy v15 dL q_15 s_15 g_15 N0_15 cP (hJ (aL.out)))
   have J6:∀ (gx:Nat) (v:World),Hid (Below x3.heap.size x3 v)→Hid (PI v s2a A2a n2a c2a (q))→Hid (PI v s2b A2b n2b c2b (s))→Hid (PI v s3 A3 n3 c3 (g))→Hid (P2 25 v gx (.bool false) (.slice none 0 0))→Hid (x3.heap.size≤gx)→F 5 (Array.setIfInBounds L0 6 true) (Act.put a0 (some 9) (.pointer (some ⟨gx,0,none⟩))) v:=by
    intro gx v aA q_j s_j g_j aB aH
    subst hF ha0 hL0
    simp only [PT] at eL eN ⊢
    have hHeld:=aE.out _ aA.out
    refine ryy [2,7] ?_
    refine .cons rfl (fun K hK=>?_) ?_
    go_simp
    go_at_call_of 117 (#[Value.agg #[.bool s2a,.slice A2a n2a c2a],Value.agg #[.bool s3,.slice A3 n3 c3]])
    refine (fdivided_any q g s2a s3 A2a A3 n2a c2a n3 c3 v (q_j.out) (g_j.out) (by omega) (by omega) aT.out.1).mono ?_
    rintro e v16 ⟨s4a,A4a,n4a,c4a,rfl,hr,hk⟩
    have N0_16:=hJ (hr)
    have bO:=hJ hk
    go_wp2_with fail
    have dM:=hJ (bt aA.out bO.out)
    have q_16:=hJ (PIo.new q_j.out bO.out)
    have s_16:=hJ (PIo.new s_j.out bO.out)
    have g_16:=hJ (PIo.new g_j.out bO.out)
    have fZ:=hJ (aB.out.new bO.out)
    clear hHeld
    refine hK.out _ _ (aE.out _ dM.out) (fun hHeld=>?_)
    clear hK K hk bO hr aA q_j s_j g_j aB
    try simp only [PT]
    exact wpAnyH_cast (by kernel_rfl) (eL s4a A4a n4a c4a gx v16 dM q_16 s_16 g_16 N0_16 fZ (hJ (aH.out)))
    refine .cons rfl (fun K hK=>?_) .nil
    go_simp
    have bH:=hJ ((Below.refl v.heap.size v).alloc (Nat.le_refl _) (.cells #[.bool false,.slice none 0 0] 25))
    have cQ:=hJ (P2.lit v 25 (.bool false) (.slice none 0 0))
    obtain ⟨v17,hV⟩:=nmz (World.alloc v (.cells #[.bool false,.slice none 0 0] 25))
    obtain ⟨gy,hg⟩:=nmz (v.heap.size)
    rw [hV] at bH cQ  ⊢
    rw [hg] at cQ  ⊢
    have aL:=hJ (show x3.heap.size≤gy by rw [←hg]; exact aA.out.size)
    have bU:=hJ (show gx≠gy by have:=aB.out.lt; rw [hg] at this; omega)
    have dN:=hJ (bt aA.out bH.out)
    have q_17:=hJ (PIo.new q_j.out bH.out)
    have s_17:=hJ (PIo.new s_j.out bH.out)
    have g_17:=hJ (PIo.new g_j.out bH.out)
    have gA:=hJ (aB.out.new bH.out)
    clear hHeld
    refine hK.out _ _ (aE.out _ dN.out) (fun hHeld=>?_)
    clear hK K hV hg bH aA q_j s_j g_j aB
    try simp only [PT]
    exact wpAnyH_cast (by kernel_rfl) (eN gx gy v17 dN q_17 s_17 g_17 gA (hJ (aH.out)) cQ (hJ (aL.out)) (hJ (bU.out)))
   have J7:∀ (gy:Nat) (v:World),Hid (Below x3.heap.size x3 v)→Hid (PI v s2a A2a n2a c2a (q))→Hid (PI v s2b A2b n2b c2b (s))→Hid (PI v s3 A3 n3 c3 (g))→Hid (P2 25 v gy (.bool false) (.slice none 0 0))→Hid (x3.heap.size≤gy)→F 5 (Array.setIfInBounds L0 7 true) (Act.put a0 (some 10) (.pointer (some ⟨gy,0,none⟩))) v:=by
    intro gy v aA q_j s_j g_j aC aI
    subst hF ha0 hL0
    simp only [PT] at eM eN ⊢
    have hHeld:=aE.out _ aA.out
    refine ryy [2,6] ?_
    refine .cons rfl (fun K hK=>?_) ?_
    go_simp
    go_at_call_of 117 (#[Value.agg #[.bool s2a,.slice A2a n2a c2a],Value.agg #[.bool s3,.slice A3 n3 c3]])
    refine (fdivided_any q g s2a s3 A2a A3 n2a c2a n3 c3 v (q_j.out) (g_j.out) (by omega) (by omega) aT.out.1).mono ?_
    rintro e v18 ⟨s4a,A4a,n4a,c4a,rfl,hr,hk⟩
    have N0_18:=hJ (hr)
    have bP:=hJ hk
    go_wp2_with fail
    have dO:=hJ (bt aA.out bP.out)
    have q_18:=hJ (PIo.new q_j.out bP.out)
    have s_18:=hJ (PIo.new s_j.out bP.out)
    have g_18:=hJ (PIo.new g_j.out bP.out)
    have gB:=hJ (aC.out.new bP.out)
    clear hHeld
    refine hK.out _ _ (aE.out _ dO.out) (fun hHeld=>?_)
    clear hK K hk bP hr aA q_j s_j g_j aC
    try simp only [PT]
    exact wpAnyH_cast (by kernel_rfl) (eM s4a A4a n4a c4a gy v18 dO q_18 s_18 g_18 N0_18 gB (hJ (aI.out)))
    refine .cons rfl (fun K hK=>?_) .nil
    go_simp
    have bJ:=hJ ((Below.refl v.heap.size v).alloc (Nat.le_refl _) (.cells #[.bool false,.slice none 0 0] 25))
    have cR:=hJ (P2.lit v 25 (.bool false) (.slice none 0 0))
    obtain ⟨v19,hV⟩:=nmz (World.alloc v (.cells #[.bool false,.slice none 0 0] 25))
    obtain ⟨gx,hg⟩:=nmz (v.heap.size)
    rw [hV] at bJ cR  ⊢
    rw [hg] at cR  ⊢
    have aM:=hJ (show x3.heap.size≤gx by rw [←hg]; exact aA.out.size)
    have bV:=hJ (show gy≠gx by have:=aC.out.lt; rw [hg] at this; omega)
    have dP:=hJ (bt aA.out bJ.out)
    have q_19:=hJ (PIo.new q_j.out bJ.out)
    have s_19:=hJ (PIo.new s_j.out bJ.out)
    have g_19:=hJ (PIo.new g_j.out bJ.out)
    have gC:=hJ (aC.out.new bJ.out)
    clear hHeld
    refine hK.out _ _ (aE.out _ dP.out) (fun hHeld=>?_)
    clear hK K hV hg bJ aA q_j s_j g_j aC
    try simp only [PT]
    exact wpAnyH_cast (by kernel_rfl) (eN gx gy v19 dP q_19 s_19 g_19 cR (hJ (aM.out)) gC (hJ (aI.out)) (hJ (bV.out.symm)))
   subst hF ha0 hL0
   simp only [PT] at J2 J6 J7
   refine ryy [2,6,7] ?_
   refine .cons rfl (fun K hK=>?_) ?_
   go_simp
   go_at_call_of 117 (#[Value.agg #[.bool s2a,.slice A2a n2a c2a],Value.agg #[.bool s3,.slice A3 n3 c3]])
   refine (fdivided_any q g s2a s3 A2a A3 n2a c2a n3 c3 v0 (q_0.out) (g_0.out) (by omega) (by omega) aT.out.1).mono ?_
   rintro e v20 ⟨s4a,A4a,n4a,c4a,rfl,hr,hk⟩
   have N0_20:=hJ (hr)
   have bW:=hJ hk
   go_wp2_with fail
   have dQ:=hJ (bt aF.out bW.out)
   have q_20:=hJ (PIo.new q_0.out bW.out)
   have s_20:=hJ (PIo.new s_0.out bW.out)
   have g_20:=hJ (PIo.new g_0.out bW.out)
   clear hHeld
   refine hK.out _ _ (aE.out _ dQ.out) (fun hHeld=>?_)
   clear hK K hk bW hr aF q_0 s_0 g_0
   try simp only [PT]
   exact wpAnyH_cast (by kernel_rfl) (J2 s4a A4a n4a c4a v20 dQ q_20 s_20 g_20 N0_20)
   refine .cons rfl (fun K hK=>?_) ?_
   go_simp
   have bQ:=hJ ((Below.refl v0.heap.size v0).alloc (Nat.le_refl _) (.cells #[.bool false,.slice none 0 0] 25))
   have cS:=hJ (P2.lit v0 25 (.bool false) (.slice none 0 0))
   obtain ⟨v21,hV⟩:=nmz (World.alloc v0 (.cells #[.bool false,.slice none 0 0] 25))
   obtain ⟨gx,hg⟩:=nmz (v0.heap.size)
   rw [hV] at bQ cS  ⊢
   rw [hg] at cS  ⊢
   have aM:=hJ (show x3.heap.size≤gx by rw [←hg]; exact aF.out.size)
   have dR:=hJ (bt aF.out bQ.out)
   have q_21:=hJ (PIo.new q_0.out bQ.out)
   have s_21:=hJ (PIo.new s_0.out bQ.out)
   have g_21:=hJ (PIo.new g_0.out bQ.out)
   clear hHeld
   refine hK.out _ _ (aE.out _ dR.out) (fun hHeld=>?_)
   clear hK K hV hg bQ aF q_0 s_0 g_0
   try simp only [PT]
   exact wpAnyH_cast (by kernel_rfl) (J6 gx v21 dR q_21 s_21 g_21 cS (hJ (aM.out)))
   refine .cons rfl (fun K hK=>?_) .nil
   go_simp
   have bR:=hJ ((Below.refl v0.heap.size v0).alloc (Nat.le_refl _) (.cells #[.bool false,.slice none 0 0] 25))
   have cT:=hJ (P2.lit v0 25 (.bool false) (.slice none 0 0))
   obtain ⟨v22,hV⟩:=nmz (World.alloc v0 (.cells #[.bool false,.slice none 0 0] 25))
   obtain ⟨gy,hg⟩:=nmz (v0.heap.size)
   rw [hV] at bR cT  ⊢
   rw [hg] at cT  ⊢
   have aL:=hJ (show x3.heap.size≤gy by rw [←hg]; exact aF.out.size)
   have dS:=hJ (bt aF.out bR.out)
   have q_22:=hJ (PIo.new q_0.out bR.out)
   have s_22:=hJ (PIo.new s_0.out bR.out)
   have g_22:=hJ (PIo.new g_0.out bR.out)
   clear hHeld
   refine hK.out _ _ (aE.out _ dS.out) (fun hHeld=>?_)
   clear hK K hV hg bR aF q_0 s_0 g_0
   try simp only [PT]
   exact wpAnyH_cast (by kernel_rfl) (J7 gy v22 dS q_22 s_22 g_22 cT (hJ (aL.out)))
  case rest =>
   obtain ⟨G4,H4,s4a,A4a,n4a,c4a,s4b,A4b,n4b,c4b,rfl,rfl,hq1,hq2,hr1,hr2,hbx⟩:=hcut
   have iL:=hJ hq1
   have gI:=hJ hq2
   have eO:=hJ hr1
   have dT:=hJ hr2
   have bK:=hJ hbx
   obtain ⟨x4,rfl⟩:=nm_world hbx
   clear hq1 hq2 hr1 hr2 hbx aE iJ
   have hn4a:n4a≤512:=plim eO.out (by rw [cE.out.2.1]; exact aT.out.2.2.1)
   have hn4b:n4b≤512:=plim dT.out (by rw [cE.out.2.2]; exact aT.out.2.2.2)
   have gJ:=hJ (iC.out.new bK.out)
   have iM:=hJ (iD.out.new bK.out)
   have iN:=hJ (iE.out.new bK.out)
   have iO:=hJ (iF.out.new bK.out)
   have iP:=hJ (iG.out.new bK.out)
   have iQ:=hJ (iH.out.new bK.out)
   have iR:=hJ (eH.out.new bK.out)
   have iS:=hJ (PIo.new gG.out bK.out)
   have iT:=hJ (eI.out.new bK.out)
   have iU:=hJ (PIo.new gH.out bK.out)
   have iV:=hJ (eF.out.new bK.out)
   have iW:=hJ (PIo.new eG.out bK.out)
   have iX:=hJ (bt iI.out bK.out)
   clear iC iD iE iF iG iH eH gG eI gH eF eG iI bK
   rw [cE.out.2.1] at eO
   rw [cE.out.2.2] at dT
   obtain ⟨cla0_4,cla1_4,cla2_4,cla3_4⟩:=gJ.out.cells
   obtain ⟨clsp0_5,clsp1_5⟩:=gI.out.cells
   obtain ⟨x5,gK⟩:=nmz (x4.alloc (.cells #[.bool s4b,.slice A4b n4b c4b] 25))
   have aU:=hJ (show Below x4.heap.size x4 x5 by rw [←gK]; exact (Below.refl _ _).alloc (Nat.le_refl _) _)
   have iY:=hJ (show Pel x5 x4.heap.size [sp]∧x4.heap.size < x5.heap.size by rw [←gK]; exact ⟨pel_lit1 dT.out aT.out.2.2.2,by simp⟩)
   have iZ:=hJ (gJ.out.new aU.out)
   have gL:=hJ (iM.out.new aU.out)
   have jA:=hJ (iN.out.new aU.out)
   have jB:=hJ (iO.out.new aU.out)
   have jC:=hJ (iP.out.new aU.out)
   have jD:=hJ (iQ.out.new aU.out)
   have jE:=hJ (iR.out.new aU.out)
   have jF:=hJ (PIo.new iS.out aU.out)
   have jG:=hJ (iT.out.new aU.out)
   have jH:=hJ (PIo.new iU.out aU.out)
   have jI:=hJ (iV.out.new aU.out)
   have jJ:=hJ (PIo.new iW.out aU.out)
   have jK:=hJ (iL.out.new aU.out)
   have jL:=hJ (PIo.new eO.out aU.out)
   have jM:=hJ (gI.out.new aU.out)
   have jN:=hJ (PIo.new dT.out aU.out)
   have jO:=hJ (bt iX.out aU.out)
   clear gJ iM iN iO iP iQ iR iS iT iU iV iW iL eO gI dT iX aU
   go_wp2_with fail
   refine (fproduct_any [sp] p sa Aa na ca x4.heap.size 1 x5 (gL.out.1) aW.out.2.2.1 iY.out.1 iY.out.2 rfl (by decide)).mono ?_
   rw [(pv_one (p) (sp)).1,(pv_one (p) (sp)).2]
   rintro e w6 ⟨s6,A6,n6,c6,rfl,hr6,hb6⟩
   obtain ⟨x6,eP⟩:=nmz (w6.alloc (.cells #[.bool s6,.slice A6 n6 c6] 25))
   have aV:=hJ (show Below x5.heap.size x5 x6 by rw [←eP]; exact hb6.alloc hb6.size _)
   have jP:=hJ (show P2 25 x6 w6.heap.size (.bool s6) (.slice A6 n6 c6) by rw [←eP]; exact P2.lit _ _ _ _)
   have jQ:=hJ (show PI x6 s6 A6 n6 c6 (outV (p*sp)) by rw [←eP]; exact PIo.new hr6 ((Below.refl _ _).alloc (Nat.le_refl _) _))
   have hn6:n6≤512:=plim hr6 (outV_lim _)
   clear hr6 hb6
   have jR:=hJ (iZ.out.new aV.out)
   have jS:=hJ (gL.out.new aV.out)
   have gM:=hJ (jA.out.new aV.out)
   have jT:=hJ (jB.out.new aV.out)
   have jU:=hJ (jC.out.new aV.out)
   have jV:=hJ (jD.out.new aV.out)
   have jW:=hJ (jE.out.new aV.out)
   have jX:=hJ (PIo.new jF.out aV.out)
   have jY:=hJ (jG.out.new aV.out)
   have jZ:=hJ (PIo.new jH.out aV.out)
   have kA:=hJ (jI.out.new aV.out)
   have kB:=hJ (PIo.new jJ.out aV.out)
   have gO:=hJ (jK.out.new aV.out)
   have gP:=hJ (PIo.new jL.out aV.out)
   have kC:=hJ (jM.out.new aV.out)
   have kD:=hJ (PIo.new jN.out aV.out)
   have kE:=hJ (bt jO.out aV.out)
   clear iZ gL jA jB jC jD jE jF jG jH jI jJ jK jL jM jN jO cla0_4 cla1_4 cla2_4 cla3_4 clsp0_5 clsp1_5 gK aV
   obtain ⟨clb0_6,clb1_6,clb2_6,clb3_6⟩:=gM.out.cells
   obtain ⟨clqp0_7,clqp1_7⟩:=gO.out.cells
   obtain ⟨x7,gQ⟩:=nmz (x6.alloc (.cells #[.bool s4a,.slice A4a n4a c4a] 25))
   have aQ:=hJ (show Below x6.heap.size x6 x7 by rw [←gQ]; exact (Below.refl _ _).alloc (Nat.le_refl _) _)
   have kF:=hJ (show Pel x7 x6.heap.size [qp]∧x6.heap.size < x7.heap.size by rw [←gQ]; exact ⟨pel_lit1 gP.out aT.out.2.2.1,by simp⟩)
   have kG:=hJ (jR.out.new aQ.out)
   have kH:=hJ (jS.out.new aQ.out)
   have kI:=hJ (gM.out.new aQ.out)
   have gR:=hJ (jT.out.new aQ.out)
   have kJ:=hJ (jU.out.new aQ.out)
   have kK:=hJ (jV.out.new aQ.out)
   have kL:=hJ (jW.out.new aQ.out)
   have kM:=hJ (PIo.new jX.out aQ.out)
   have kN:=hJ (jY.out.new aQ.out)
   have kO:=hJ (PIo.new jZ.out aQ.out)
   have kP:=hJ (kA.out.new aQ.out)
   have kQ:=hJ (PIo.new kB.out aQ.out)
   have kR:=hJ (gO.out.new aQ.out)
   have kS:=hJ (PIo.new gP.out aQ.out)
   have kT:=hJ (kC.out.new aQ.out)
   have kU:=hJ (PIo.new kD.out aQ.out)
   have kV:=hJ (jP.out.new aQ.out)
   have kW:=hJ (PIo.new jQ.out aQ.out)
   have kX:=hJ (bt kE.out aQ.out)
   clear jR jS gM jT jU jV jW jX jY jZ kA kB gO gP kC kD jP jQ kE aQ
   go_wp2_with fail
   refine (fproduct_any [qp] r sd Ad nd cd x6.heap.size 1 x7 (gR.out.1) aW.out.2.2.2.2.1 kF.out.1 kF.out.2 rfl (by decide)).mono ?_
   rw [(pv_one (r) (qp)).1,(pv_one (r) (qp)).2]
   rintro e w8 ⟨s8,A8,n8,c8,rfl,hr8,hb8⟩
   obtain ⟨x8,eQ⟩:=nmz (w8.alloc (.cells #[.bool s8,.slice A8 n8 c8] 25))
   have aR:=hJ (show Below x7.heap.size x7 x8 by rw [←eQ]; exact hb8.alloc hb8.size _)
   have kY:=hJ (show P2 25 x8 w8.heap.size (.bool s8) (.slice A8 n8 c8) by rw [←eQ]; exact P2.lit _ _ _ _)
   have kZ:=hJ (show PI x8 s8 A8 n8 c8 (outV (r*qp)) by rw [←eQ]; exact PIo.new hr8 ((Below.refl _ _).alloc (Nat.le_refl _) _))
   have hn8:n8≤512:=plim hr8 (outV_lim _)
   clear hr8 hb8
   have lA:=hJ (kG.out.new aR.out)
   have lB:=hJ (kH.out.new aR.out)
   have lC:=hJ (kI.out.new aR.out)
   have lD:=hJ (gR.out.new aR.out)
   have lE:=hJ (kJ.out.new aR.out)
   have lF:=hJ (kK.out.new aR.out)
   have lG:=hJ (kL.out.new aR.out)
   have lH:=hJ (PIo.new kM.out aR.out)
   have gT:=hJ (kN.out.new aR.out)
   have gU:=hJ (PIo.new kO.out aR.out)
   have lI:=hJ (kP.out.new aR.out)
   have lJ:=hJ (PIo.new kQ.out aR.out)
   have gV:=hJ (kR.out.new aR.out)
   have lK:=hJ (PIo.new kS.out aR.out)
   have lL:=hJ (kT.out.new aR.out)
   have lM:=hJ (PIo.new kU.out aR.out)
   have lN:=hJ (kV.out.new aR.out)
   have lO:=hJ (PIo.new kW.out aR.out)
   have lP:=hJ (bt kX.out aR.out)
   clear kG kH kI gR kJ kK kL kM kN kO kP kQ kR kS kT kU kV kW kX eP clb0_6 clb1_6 clb2_6 clb3_6 clqp0_7 clqp1_7 gQ aR
   obtain ⟨clqp0_8,clqp1_8⟩:=gV.out.cells
   obtain ⟨cls0_9,cls1_9⟩:=gT.out.cells
   obtain ⟨x9,gW⟩:=nmz (x8.alloc (.cells #[.bool s2b,.slice A2b n2b c2b] 25))
   have aO:=hJ (show Below x8.heap.size x8 x9 by rw [←gW]; exact (Below.refl _ _).alloc (Nat.le_refl _) _)
   have lQ:=hJ (show Pel x9 x8.heap.size [s]∧x8.heap.size < x9.heap.size by rw [←gW]; exact ⟨pel_lit1 gU.out aW.out.2.2.2.2.2,by simp⟩)
   have lR:=hJ (lA.out.new aO.out)
   have lS:=hJ (lB.out.new aO.out)
   have lT:=hJ (lC.out.new aO.out)
   have lU:=hJ (lD.out.new aO.out)
   have lV:=hJ (lE.out.new aO.out)
   have lW:=hJ (lF.out.new aO.out)
   have lX:=hJ (lG.out.new aO.out)
   have lY:=hJ (PIo.new lH.out aO.out)
   have lZ:=hJ (gT.out.new aO.out)
   have mA:=hJ (PIo.new gU.out aO.out)
   have mB:=hJ (lI.out.new aO.out)
   have mC:=hJ (PIo.new lJ.out aO.out)
   have mD:=hJ (gV.out.new aO.out)
   have gX:=hJ (PIo.new lK.out aO.out)
   have mE:=hJ (lL.out.new aO.out)
   have mF:=hJ (PIo.new lM.out aO.out)
   have mG:=hJ (lN.out.new aO.out)
   have mH:=hJ (PIo.new lO.out aO.out)
   have mI:=hJ (kY.out.new aO.out)
   have mJ:=hJ (PIo.new kZ.out aO.out)
   have mK:=hJ (bt lP.out aO.out)
   clear lA lB lC lD lE lF lG lH gT gU lI lJ gV lK lL lM lN lO kY kZ lP aO
   go_wp2_with fail
   refine (fproduct_any [s] qp s4a A4a n4a c4a x8.heap.size 1 x9 (gX.out) aT.out.2.2.1 lQ.out.1 lQ.out.2 rfl (by decide)).mono ?_
   rw [(pv_one (qp) (s)).1,(pv_one (qp) (s)).2]
   rintro e w10 ⟨s10,A10,n10,c10,rfl,hr10,hb10⟩
   obtain ⟨x10,eR⟩:=nmz (w10.alloc (.cells #[.bool s10,.slice A10 n10 c10] 25))
   have aP:=hJ (show Below x9.heap.size x9 x10 by rw [←eR]; exact hb10.alloc hb10.size _)
   have mL:=hJ (show P2 25 x10 w10.heap.size (.bool s10) (.slice A10 n10 c10) by rw [←eR]; exact P2.lit _ _ _ _)
   have mM:=hJ (show PI x10 s10 A10 n10 c10 (outV (qp*s)) by rw [←eR]; exact PIo.new hr10 ((Below.refl _ _).alloc (Nat.le_refl _) _))
   have hn10:n10≤512:=plim hr10 (outV_lim _)
   clear hr10 hb10
   have mN:=hJ (lR.out.new aP.out)
   have mO:=hJ (lS.out.new aP.out)
   have mP:=hJ (lT.out.new aP.out)
   have mQ:=hJ (lU.out.new aP.out)
   have mR:=hJ (lV.out.new aP.out)
   have mS:=hJ (lW.out.new aP.out)
   have mT:=hJ (lX.out.new aP.out)
   have mU:=hJ (PIo.new lY.out aP.out)
   have mV:=hJ (lZ.out.new aP.out)
   have mW:=hJ (PIo.new mA.out aP.out)
   have mX:=hJ (mB.out.new aP.out)
   have mY:=hJ (PIo.new mC.out aP.out)
   have mZ:=hJ (mD.out.new aP.out)
   have nA:=hJ (PIo.new gX.out aP.out)
   have nB:=hJ (mE.out.new aP.out)
   have nC:=hJ (PIo.new mF.out aP.out)
   have gY:=hJ (mG.out.new aP.out)
   have gZ:=hJ (PIo.new mH.out aP.out)
   have hA:=hJ (mI.out.new aP.out)
   have hB:=hJ (PIo.new mJ.out aP.out)
   have nD:=hJ (bt mK.out aP.out)
   clear lR lS lT lU lV lW lX lY lZ mA mB mC mD gX mE mF mG mH mI mJ mK eQ clqp0_8 clqp1_8 cls0_9 cls1_9 gW aP
   obtain ⟨clleft0_11,clleft1_11⟩:=gY.out.cells
   obtain ⟨clright0_11,clright1_11⟩:=hA.out.cells
   go_wp2_with fail
   refine (padd_any (outV (p*sp)) (outV (r*qp)) s6 s8 A6 A8 n6 c6 n8 c8 x10 gZ.out hB.out (by omega) (by omega) (outV_lim _) (outV_lim _)).mono ?_
   rintro e w11 ⟨s11,A11,n11,c11,rfl,hr11,hb11⟩
   obtain ⟨x11,eS⟩:=nmz (w11.alloc (.cells #[.bool s11,.slice A11 n11 c11] 25))
   have aK:=hJ (show Below x10.heap.size x10 x11 by rw [←eS]; exact hb11.alloc hb11.size _)
   have nE:=hJ (show P2 25 x11 w11.heap.size (.bool s11) (.slice A11 n11 c11) by rw [←eS]; exact P2.lit _ _ _ _)
   have nF:=hJ (show PI x11 s11 A11 n11 c11 (outV (outV (p*sp)+outV (r*qp))) by rw [←eS]; exact PIo.new hr11 ((Below.refl _ _).alloc (Nat.le_refl _) _))
   have hn11:n11≤512:=plim hr11 (outV_lim _)
   clear hr11 hb11
   have nG:=hJ (mN.out.new aK.out)
   have nH:=hJ (mO.out.new aK.out)
   have nJ:=hJ (mP.out.new aK.out)
   have nK:=hJ (mQ.out.new aK.out)
   have nL:=hJ (mR.out.new aK.out)
   have nM:=hJ (mS.out.new aK.out)
   have nN:=hJ (mT.out.new aK.out)
   have nO:=hJ (PIo.new mU.out aK.out)
   have nP:=hJ (mV.out.new aK.out)
   have nQ:=hJ (PIo.new mW.out aK.out)
   have nR:=hJ (mX.out.new aK.out)
   have nS:=hJ (PIo.new mY.out aK.out)
   have nT:=hJ (mZ.out.new aK.out)
   have nU:=hJ (PIo.new nA.out aK.out)
   have nV:=hJ (nB.out.new aK.out)
   have nW:=hJ (PIo.new nC.out aK.out)
   have nX:=hJ (gY.out.new aK.out)
   have nY:=hJ (PIo.new gZ.out aK.out)
   have nZ:=hJ (hA.out.new aK.out)
   have oA:=hJ (PIo.new hB.out aK.out)
   have oB:=hJ (mL.out.new aK.out)
   have oC:=hJ (PIo.new mM.out aK.out)
   have oD:=hJ (bt nD.out aK.out)
   clear mN mO mP mQ mR mS mT mU mV mW mX mY mZ nA nB nC gY gZ hA hB mL mM nD eR clleft0_11 clleft1_11 clright0_11 clright1_11 aK
   obtain ⟨x12,hC⟩:=nmz (x11.alloc (.cells #[.int .i64 (outC (p*sp)),.int .i64 (outC (r*qp)),.int .i64 (outC (outV (p*sp)+outV (r*qp))),.int .i64 (outC (qp*s))] 40))
   have aJ:=hJ (show Below x11.heap.size x11 x12 by rw [←hC]; exact (Below.refl _ _).alloc (Nat.le_refl _) _)
   have oP:=hJ (show Codes x12 x11.heap.size [outC (p*sp),outC (r*qp),outC (outV (p*sp)+outV (r*qp)),outC (qp*s)] by rw [←hC]; exact codes_lit4 _ _ _ _)
   have oQ:=hJ (nG.out.new aJ.out)
   have oR:=hJ (nH.out.new aJ.out)
   have oS:=hJ (nJ.out.new aJ.out)
   have oT:=hJ (nK.out.new aJ.out)
   have cA:=hJ (nL.out.new aJ.out)
   have oU:=hJ (nM.out.new aJ.out)
   have oV:=hJ (nN.out.new aJ.out)
   have oW:=hJ (PIo.new nO.out aJ.out)
   have oX:=hJ (nP.out.new aJ.out)
   have oY:=hJ (PIo.new nQ.out aJ.out)
   have oE:=hJ (nR.out.new aJ.out)
   have oF:=hJ (PIo.new nS.out aJ.out)
   have oZ:=hJ (nT.out.new aJ.out)
   have pA:=hJ (PIo.new nU.out aJ.out)
   have pB:=hJ (nV.out.new aJ.out)
   have pC:=hJ (PIo.new nW.out aJ.out)
   have pD:=hJ (nX.out.new aJ.out)
   have pE:=hJ (PIo.new nY.out aJ.out)
   have pF:=hJ (nZ.out.new aJ.out)
   have pG:=hJ (PIo.new oA.out aJ.out)
   have oG:=hJ (oB.out.new aJ.out)
   have eT:=hJ (PIo.new oC.out aJ.out)
   have hE:=hJ (nE.out.new aJ.out)
   have dU:=hJ (PIo.new nF.out aJ.out)
   have hG:=hJ (bt oD.out aJ.out)
   clear nG nH nJ nK nL nM nN nO nP nQ nR nS nT nU nV nW nX nY nZ oA oB oC nE nF oD aJ
   go_wp2_with fail
   refine (ferror_any [outC (p*sp),outC (r*qp),outC (outV (p*sp)+outV (r*qp)),outC (qp*s)] x11.heap.size 4 x12 oP.out rfl (by decide)).mono ?_
   have dW:=hJ (ad_codes (p:=p) (r:=r) cE.out.1 cE.out.2.1 cE.out.2.2 aT.out.1 aT.out.2.1)
   obtain ⟨u,hu⟩:∃ u,feV [outC (p*sp),outC (r*qp),outC (outV (p*sp)+outV (r*qp)),outC (qp*s)]=u:=⟨_,rfl⟩
   rw [hu] at dW ⊢
   clear hu
   rintro e w' ⟨rfl,rfl⟩
   by_cases hu:u=0
   ·have HE:=hJ (dW.out.1 hu)
    subst hu
    clear dW
    rw [HE.out.1] at dU
    rw [HE.out.2.1] at eT
    obtain ⟨N,hN⟩:∃ x,adN p q r s=x:=⟨_,rfl⟩
    obtain ⟨D,hD⟩:∃ x,adD q s=x:=⟨_,rfl⟩
    rw [hN] at dU HE
    rw [hD] at eT HE
    have oH:=hJ (And.intro hN hD)
    clear hN hD
    clear oR oQ oT oS oW oV oY oX pA oZ pC pB pE pD pG pF
    obtain ⟨clnum0_14,clnum1_14⟩:=hE.out.cells
    obtain ⟨clg0_14,clg1_14⟩:=oE.out.cells
    go_wp2_with fail
    refine (fcommon_any N g s11 s3 A11 A3 n11 c11 n3 c3 x12 dU.out oF.out (by omega) (by omega)).mono ?_
    rintro e w14 ⟨s14,A14,n14,c14,rfl,hr14,hb14⟩
    obtain ⟨x14,eU⟩:=nmz (w14.alloc (.cells #[.bool s14,.slice A14 n14 c14] 25))
    have cU:=hJ (show Below x12.heap.size x12 x14 by rw [←eU]; exact hb14.alloc hb14.size _)
    have hI:=hJ (show P2 25 x14 w14.heap.size (.bool s14) (.slice A14 n14 c14) by rw [←eU]; exact P2.lit _ _ _ _)
    have oI:=hJ (show PI x14 s14 A14 n14 c14 (((Nat.gcd N.natAbs g.natAbs:Nat):Int)) by rw [←eU]; exact PIo.new hr14 ((Below.refl _ _).alloc (Nat.le_refl _) _))
    have hn14:n14≤512:=plim hr14 HE.out.2.2.2.2.1
    clear hr14 hb14
    have eV:=hJ (cA.out.new cU.out)
    have hL:=hJ (oG.out.new cU.out)
    have pH:=hJ (PIo.new eT.out cU.out)
    have hM:=hJ (hE.out.new cU.out)
    have pI:=hJ (PIo.new dU.out cU.out)
    have pJ:=hJ (bt hG.out cU.out)
    clear cA oU oE oF oG eT hE dU hG eS hC clnum0_14 clnum1_14 clg0_14 clg1_14 cU
    have eW:=hJ HE.out.2.2.2.2
    obtain ⟨H,hH⟩:∃ x,((Nat.gcd N.natAbs g.natAbs:Nat):Int)=x:=⟨_,rfl⟩
    rw [hH] at oI eW
    have pK:=hJ hH
    clear hH
    obtain ⟨gN,hgN⟩:∃ g,w11.heap.size=g:=⟨_,rfl⟩
    obtain ⟨gD,hgD⟩:∃ g,w10.heap.size=g:=⟨_,rfl⟩
    obtain ⟨gS,hgS⟩:∃ g,w14.heap.size=g:=⟨_,rfl⟩
    rw [hgN] at hM
    rw [hgD] at hL
    rw [hgS] at hI
    have hO:=hJ (show gN≠h+1+1∧gD≠h+1+1∧gS≠h+1+1 from ⟨P2_ne_P4 hM.out eV.out,P2_ne_P4 hL.out eV.out,P2_ne_P4 hI.out eV.out⟩)
    go_upto_region 12 with fail
    clear hgN hgD hgS eU
    have hP:=hJ (ad_ok HE.out.2.2.1 HE.out.2.2.2.1 oH.out.1 oH.out.2 cE.out.1 pK.out)
    obtain ⟨v0,hv0⟩:=nmz (World.drew x14)
    have aF:=hJ (show Below x14.heap.size x14 v0 by rw [←hv0]; exact (Below.refl _ _).drew)
    have cH:=hJ (bt pJ.out aF.out)
    have num_0:=hJ (PIo.new pI.out aF.out)
    have den_0:=hJ (PIo.new pH.out aF.out)
    have sh_0:=hJ (PIo.new oI.out aF.out)
    have eX:=hJ (hM.out.new aF.out)
    have eY:=hJ (hL.out.new aF.out)
    have eZ:=hJ (hI.out.new aF.out)
    have oJ:=hJ (eV.out.new aF.out)
    refine wp_region_held_drew (S:=(fun w':World=>w'.cell? ⟨gN,0,none⟩=some (.bool s11)∧w'.cell? ⟨gN,1,none⟩=some (.slice A11 n11 c11)∧w'.cell? ⟨gD,0,none⟩=some (.bool s10)∧w'.cell? ⟨gD,1,none⟩=some (.slice A10 n10 c10)∧w'.cell? ⟨gS,0,none⟩=some (.bool s14)∧w'.cell? ⟨gS,1,none⟩=some (.slice A14 n14 c14)∧Below w.heap.size w w')) (by kernel_rfl) ?_ (fun hHeld=>?_)
    ·rw [hv0]
     exact ⟨eX.out.cells.1,eX.out.cells.2,eY.out.cells.1,eY.out.cells.2,eZ.out.cells.1,eZ.out.cells.2,cH.out⟩
    rw [hv0] at hHeld ⊢
    clear hv0 aF
    refine tq 0 ?_
    refine tq 1 ?_
    refine tq 3 ?_
    refine tq 4 ?_
    try simp only [PT]
    refine ryy [2] ?_
    refine .cons rfl (fun K hK=>?_) .nil
    go_simp
    go_at_call_of 117 (#[Value.agg #[.bool s11,.slice A11 n11 c11],Value.agg #[.bool s14,.slice A14 n14 c14]])
    refine (fdivided_any N H s11 s14 A11 A14 n11 c11 n14 c14 v0 (num_0.out) (sh_0.out) (by omega) (by omega) eW.out.2.1).mono ?_
    rintro e v1 ⟨t5,T5,m5,d5,rfl,hr,hk⟩
    have R5_1:=hJ (hr)
    have cB:=hJ hk
    go_wp2_with fail
    have bT:=hJ (bt cH.out cB.out)
    have num_1:=hJ (PIo.new num_0.out cB.out)
    have den_1:=hJ (PIo.new den_0.out cB.out)
    have sh_1:=hJ (PIo.new sh_0.out cB.out)
    have fA:=hJ (eX.out.new cB.out)
    have fB:=hJ (eY.out.new cB.out)
    have fC:=hJ (eZ.out.new cB.out)
    have oK:=hJ (oJ.out.new cB.out)
    clear hHeld
    refine hK.out _ _ (⟨fA.out.cells.1,fA.out.cells.2,fB.out.cells.1,fB.out.cells.2,fC.out.cells.1,fC.out.cells.2,bT.out⟩) (fun hHeld=>?_)
    clear hK K hk cB hr cH num_0 den_0 sh_0 eX eY eZ oJ
    try simp only [PT]
    refine ryy [5] ?_
    refine .cons rfl (fun K hK=>?_) .nil
    go_simp
    go_at_call_of 117 (#[Value.agg #[.bool s10,.slice A10 n10 c10],Value.agg #[.bool s14,.slice A14 n14 c14]])
    refine (fdivided_any D H s10 s14 A10 A14 n10 c10 n14 c14 v1 (den_1.out) (sh_1.out) (by omega) (by omega) eW.out.2.1).mono ?_
    rintro e v2 ⟨t6,T6,m6,d6,rfl,hr,hk⟩
    have R6_2:=hJ (hr)
    have bX:=hJ hk
    go_wp2_with fail
    have bY:=hJ (bt bT.out bX.out)
    have num_2:=hJ (PIo.new num_1.out bX.out)
    have den_2:=hJ (PIo.new den_1.out bX.out)
    have sh_2:=hJ (PIo.new sh_1.out bX.out)
    have R5_2:=hJ (PIo.new R5_1.out bX.out)
    have fD:=hJ (fA.out.new bX.out)
    have fE:=hJ (fB.out.new bX.out)
    have fF:=hJ (fC.out.new bX.out)
    have oL:=hJ (oK.out.new bX.out)
    clear hHeld
    refine hK.out _ _ (⟨fD.out.cells.1,fD.out.cells.2,fE.out.cells.1,fE.out.cells.2,fF.out.cells.1,fF.out.cells.2,bY.out⟩) (fun hHeld=>?_)
    clear hK K hk bX hr bT num_1 den_1 sh_1 R5_1 fA fB fC oK
    try simp only [PT]
    refine ryy [6] ?_
    refine .cons rfl (fun K hK=>?_) .nil
    go_simp
    go_at_call 116
    refine (flowest_any (N / H) (D / H) t5 t6 T5 T6 m5 d5 m6 d6 v2 (R5_2.out) (R6_2.out) (by have:=plim R6_2.out eW.out.2.2.2; omega)).mono ?_
    rintro e v3 ⟨t7,T7,m7,d7,t8,T8,m8,d8,rfl,hr,hk⟩
    have R7_3:=hJ (hr)
    have aG:=hJ hk
    go_wp2_with fail
    have bZ:=hJ (bt bY.out aG.out)
    have num_3:=hJ (PIo.new num_2.out aG.out)
    have den_3:=hJ (PIo.new den_2.out aG.out)
    have sh_3:=hJ (PIo.new sh_2.out aG.out)
    have R5_3:=hJ (PIo.new R5_2.out aG.out)
    have R6_3:=hJ (PIo.new R6_2.out aG.out)
    have fG:=hJ (fD.out.new aG.out)
    have fH:=hJ (fE.out.new aG.out)
    have fI:=hJ (fF.out.new aG.out)
    have bL:=hJ (oL.out.new aG.out)
    clear hHeld
    refine hK.out _ _ (⟨fG.out.cells.1,fG.out.cells.2,fH.out.cells.1,fH.out.cells.2,fI.out.cells.1,fI.out.cells.2,bZ.out⟩) (fun hHeld=>?_)
    clear hK K hk aG hr bY num_2 den_2 sh_2 R5_2 R6_2 fD fE fF oL
    try simp only [PT]
    refine ryy [7] ?_
    refine .cons rfl (fun K hK=>?_) .nil
    obtain ⟨z0,z1,z2,z3⟩:=bL.out.cells
    have y0:=bL.out.frozen 0
    have y1:=bL.out.frozen 1
    have y2:=bL.out.frozen 2
    have y3:=bL.out.frozen 3
    have z9:=bL.out.lt
    go_simp
    obtain ⟨v4,hV⟩:=nmz (World.setCell (World.setCell (World.setCell (World.setCell v3 ⟨(h+1+1),0,none⟩ (.bool t7)) ⟨(h+1+1),1,none⟩ (.slice T7 m7 d7)) ⟨(h+1+1),2,none⟩ (.bool t8)) ⟨(h+1+1),3,none⟩ (.slice T8 m8 d8))
    rw [hV]
    have cC:=hJ (show Below w.heap.size w v4 by rw [←hV]; exact below_box4 bZ.out (by rw [HH.out]; omega) _ _ _ _)
    have num_4:=hJ (show PI v4 s11 A11 n11 c11 N by rw [←hV]; exact PIo.box4 (num_3.out) (bL.out) rfl rfl rfl rfl (.bool t7) (.slice T7 m7 d7) (.bool t8) (.slice T8 m8 d8))
    have den_4:=hJ (show PI v4 s10 A10 n10 c10 D by rw [←hV]; exact PIo.box4 (den_3.out) (bL.out) rfl rfl rfl rfl (.bool t7) (.slice T7 m7 d7) (.bool t8) (.slice T8 m8 d8))
    have sh_4:=hJ (show PI v4 s14 A14 n14 c14 H by rw [←hV]; exact PIo.box4 (sh_3.out) (bL.out) rfl rfl rfl rfl (.bool t7) (.slice T7 m7 d7) (.bool t8) (.slice T8 m8 d8))
    have R5_4:=hJ (show PI v4 t5 T5 m5 d5 (N / H) by rw [←hV]; exact PIo.box4 (R5_3.out) (bL.out) rfl rfl rfl rfl (.bool t7) (.slice T7 m7 d7) (.bool t8) (.slice T8 m8 d8))
    have R6_4:=hJ (show PI v4 t6 T6 m6 d6 (D / H) by rw [←hV]; exact PIo.box4 (R6_3.out) (bL.out) rfl rfl rfl rfl (.bool t7) (.slice T7 m7 d7) (.bool t8) (.slice T8 m8 d8))
    have R7_4:=hJ (show PF v4 t7 T7 m7 d7 t8 T8 m8 d8 (N / H) (D / H) by rw [←hV]; exact PF.box4 (R7_3.out) (bL.out) (.bool t7) (.slice T7 m7 d7) (.bool t8) (.slice T8 m8 d8))
    have oM:=hJ (show P2 25 v4 gN (.bool s11) (.slice A11 n11 c11) by rw [←hV]; exact fG.out.far4 (show gN≠(h+1+1) from hO.out.1) (.bool t7) (.slice T7 m7 d7) (.bool t8) (.slice T8 m8 d8))
    have oN:=hJ (show P2 25 v4 gD (.bool s10) (.slice A10 n10 c10) by rw [←hV]; exact fH.out.far4 (show gD≠(h+1+1) from hO.out.2.1) (.bool t7) (.slice T7 m7 d7) (.bool t8) (.slice T8 m8 d8))
    have oO:=hJ (show P2 25 v4 gS (.bool s14) (.slice A14 n14 c14) by rw [←hV]; exact fI.out.far4 (show gS≠(h+1+1) from hO.out.2.2) (.bool t7) (.slice T7 m7 d7) (.bool t8) (.slice T8 m8 d8))
    have pL:=hJ (show P4 27 v4 (h+1+1) (.bool t7) (.slice T7 m7 d7) (.bool t8) (.slice T8 m8 d8) by rw [←hV]; exact bL.out.all (.bool t7) (.slice T7 m7 d7) (.bool t8) (.slice T8 m8 d8))
    clear hHeld
    refine hK.out _ _ (⟨oM.out.cells.1,oM.out.cells.2,oN.out.cells.1,oN.out.cells.2,oO.out.cells.1,oO.out.cells.2,cC.out⟩) (fun hHeld=>?_)
    clear hK K hV z9 z0 z1 z2 z3 y0 y1 y2 y3 bZ num_3 den_3 sh_3 R5_3 R6_3 R7_3 fG fH fI bL
    refine tq 8 ?_
    try simp only [PT]
    refine wpAnyH_done (by kernel_rfl) ?_ _
    clear hHeld
    go_wp2
    exact bodyPost_ret (results_cell1 rfl _ _ _ _ _ _ _ rfl (pL.out) Tryz.underlying27 rfl F_size) rfl (by rw [hP.out.1,hP.out.2.1,hP.out.2.2]; exact ⟨t7,T7,m7,d7,t8,T8,m8,d8,rfl,R7_4.out,cC.out⟩)
   ·have fJ:=hJ (dW.out.2 hu)
    have hub:(u == 0)=false:=by simp [hu]
    have hue:u=4:=fJ.out.2.2.2
    subst hue
    clear hu dW hub
    obtain ⟨z0,z1,z2,z3⟩:=cA.out.cells
    have f0:=cA.out.frozen 0
    have f1:=cA.out.frozen 1
    have f2:=cA.out.frozen 2
    have f3:=cA.out.frozen 3
    go_wp2
    exact bodyPost_ret (results_cell1 rfl _ _ _ _ _ _ _ rfl (cA.out.all (.bool false) (.slice none 0 0) (.bool false) (.slice none 0 0)) Tryz.underlying27 rfl F_size) rfl (by rw [fJ.out.1,fJ.out.2.1,fJ.out.2.2.1]; exact RetFE.stored (p:=0) (q:=1) ⟨PI.zero _,PI.zero _⟩ cA.out hG.out (by rw [HH.out]; omega) _ _ _ _)

end Go.Proofs.YteggneaefggbmaaGreat
