/- What else is needed of the texts below. Conditions: as each statement has them. -/
import Derived.Deep.DeepCutAuto
import Derived.Lib.Bytealg
import Derived.Lib.Slices
import Derived.Lib.Strings
import Derived.Lib.Walk
import Derived.Shelf.RegionOpenPlain
import Derived.Test.YtbgfmegepekapaaGreatAE
import Derived.Test.YtbgfmegepekapaaGreatB2
import Derived.Test.YtbgfmegepekapaaGreatB5
import Derived.Test.YtbgfmegepekapaaGreatFD
import Derived.Test.YtbgfmegepekapaaGreatFG
import Derived.Test.YtbgfmegepekapaaGreatFI
import Derived.Test.YtbgfmegepekapaaGreatGM
import Derived.Test.YtbgfmegepekapaaGreatQL

namespace Go.Proofs.YtbgfmegepekapaaGreat
open Go.RowKit
attribute [local go_sem ↓] Go.wp_at_zero Go.wp_at_succ
theorem mkQ_pos {p q:Int}:0 < mkQ p q:=by
 unfold mkQ
 split
 ·decide
 ·rename_i h
  have h1:=Nat.gcd_pos_of_pos_right p.natAbs (show 0 < q.natAbs by omega)
  have hd:=Nat.gcd_dvd_right p.natAbs q.natAbs
  unfold mkD
  obtain ⟨k,hk⟩:=hd
  generalize Nat.gcd p.natAbs q.natAbs=G at *
  have hk0:0 < k:=by
   rcases Nat.eq_zero_or_pos k with e | e
   ·subst e; omega
   exact e
  split
  ·have e:q = -(G:Int)*(k:Int):=by
    have h3:q = -(q.natAbs:Int):=by omega
    rw [h3,hk,Int.natCast_mul,Int.neg_mul]
   rw [e,Int.mul_ediv_cancel_left _ (by omega)]
   omega
  ·have e:q=(G:Int)*(k:Int):=by
    have h3:q=(q.natAbs:Int):=by omega
    rw [h3,hk,Int.natCast_mul]
   rw [e,Int.mul_ediv_cancel_left _ (by omega)]
   omega
def dvP (p q r s:Int):Int:=if r=0 then 0 else muP p q (mkP s r) (mkQ s r)
def dvQ (p q r s:Int):Int:=if r=0 then 1 else muQ p q (mkP s r) (mkQ s r)
set_option maxRecDepth 100000 in
set_option maxHeartbeats 6400000 in
theorem fdiv_any (p q r s:Int) (sa sb sd se:Bool) (Aa Ab Ad Ae:Option Addr) (na ca nb cb nd cd ne ce:Nat) (w:World) (hx:PF w sa Aa na ca sb Ab nb cb p q) (hy:PF w sd Ad nd cd se Ae ne ce r s) (hq:0 < q) (hs:0 < s) (hlp:p.natAbs < lim) (hlq:q.natAbs < lim) (hlr:r.natAbs < lim) (hls:s.natAbs < lim) :
  Calls Tryz.prog 100 #[.agg #[.bool sa,.slice Aa na ca,.bool sb,.slice Ab nb cb],.agg #[.bool sd,.slice Ad nd cd,.bool se,.slice Ae ne ce]] w (RetFE (dvP p q r s) (dvQ p q r s) (dvC p q r s) w):=by
 have aB:=hJ (And.intro hq (And.intro hs (And.intro hlp (And.intro hlq (And.intro hlr hls)))))
 obtain ⟨W,hW⟩:∃ W,((w.alloc (.cells #[.bool sa,.slice Aa na ca,.bool sb,.slice Ab nb cb] 27)).alloc (.cells #[.bool sd,.slice Ad nd cd,.bool se,.slice Ae ne ce] 27)).alloc (.cells #[.bool false,.slice none 0 0,.bool false,.slice none 0 0] 27)=W:=⟨_,rfl⟩
 have HK:=hJ (show Below w.heap.size w W by rw [←hW]; exact W444_k _ _ _ _ _ _ _ _ _ _ _ _ _ _)
 have aZ:=hJ (show P4 27 W w.heap.size (.bool sa) (.slice Aa na ca) (.bool sb) (.slice Ab nb cb) by rw [←hW]; exact W444_a _ _ _ _ _ _ _ _ _ _ _ _ _ _)
 have aI:=hJ (show P4 27 W (w.heap.size+1) (.bool sd) (.slice Ad nd cd) (.bool se) (.slice Ae ne ce) by rw [←hW]; exact W444_b _ _ _ _ _ _ _ _ _ _ _ _ _ _)
 have bA:=hJ (show P4 27 W (w.heap.size+1+1) (.bool false) (.slice none 0 0) (.bool false) (.slice none 0 0) by rw [←hW]; exact W444_z _ _ _ _ _ _ _ _ _ _ _ _ _ _)
 have bK:=hJ (hx.new HK.out)
 have bL:=hJ (hy.new HK.out)
 have bS:=hJ (show PF W false none 0 0 false none 0 0 0 1 from ⟨PI.zero W,PI.zero W⟩)
 have hna:na≤512:=plim hx.1 hlp
 have hnb:nb≤512:=plim hx.2 (dn_lim hlq)
 have hnd:nd≤512:=plim hy.1 hlr
 have hne:ne≤512:=plim hy.2 (dn_lim hls)
 obtain ⟨h,hh⟩:∃ h,w.heap.size=h:=⟨_,rfl⟩
 have HH:=hJ hh
 rw [hh] at aZ aI bA
 clear hx hy hq hs hlp hlq hlr hls
 go_enter Tryz.func100,Tryz.ntmps100
 have HS:Hid (∀ w',Below W.heap.size W w'→(fun w':World=>w'.cell? ⟨(h+1),0,none⟩=some (.bool sd)∧w'.cell? ⟨(h+1),1,none⟩=some (.slice Ad nd cd)∧w'.cell? ⟨(h+1),2,none⟩=some (.bool se)∧w'.cell? ⟨(h+1),3,none⟩=some (.slice Ae ne ce)∧Below W.heap.size W w') w'):=hJ (fun w' hb=>⟨(aI.out.new hb).cells.1,(aI.out.new hb).cells.2.1,(aI.out.new hb).cells.2.2.1,(aI.out.new hb).cells.2.2.2,hb⟩)
 have bM:=hJ (Below.refl W.heap.size W)
 obtain ⟨P,hP⟩:∃ x,mkP s r=x:=⟨_,rfl⟩
 obtain ⟨Q,hQ⟩:∃ x,mkQ s r=x:=⟨_,rfl⟩
 obtain ⟨C,hC⟩:∃ x,mkC r=x:=⟨_,rfl⟩
 have aA:=hJ (And.intro hP (And.intro hQ hC))
 clear hP hQ hC
 go_upto_region 1 with fail
 clear hW hh
 go_cut [6,7] (fun tp tq wx=>∃ (G:Nat) (s1:Bool) (A1:Option Addr) (n1 c1:Nat) (s2:Bool) (A2:Option Addr) (n2 c2:Nat),tp=.pointer (some ⟨G,0,none⟩)∧tq=.int .i64 C∧P4 27 wx G (.bool s1) (.slice A1 n1 c1) (.bool s2) (.slice A2 n2 c2)∧PF wx s1 A1 n1 c1 s2 A2 n2 c2 P Q∧Below W.heap.size W wx)
 case first =>
  obtain ⟨v0,hv0⟩:=nmz (World.drew W)
  have bB:=hJ (show Below W.heap.size W v0 by rw [←hv0]; exact (Below.refl _ _).drew)
  have aJ:=hJ (bt bM.out bB.out)
  have b_0:=hJ ((bL.out).new bB.out)
  refine wp_region_held_drew (S:=(fun w':World=>w'.cell? ⟨(h+1),0,none⟩=some (.bool sd)∧w'.cell? ⟨(h+1),1,none⟩=some (.slice Ad nd cd)∧w'.cell? ⟨(h+1),2,none⟩=some (.bool se)∧w'.cell? ⟨(h+1),3,none⟩=some (.slice Ae ne ce)∧Below W.heap.size W w')) (by kernel_rfl) ?_ (fun hHeld=>?_)
  ·rw [hv0]
   exact HS.out _ aJ.out
  rw [hv0] at hHeld ⊢
  clear hv0 bB
  refine tq 0 ?_
  refine tq 2 ?_
  refine tq 3 ?_
  try simp only [PT]
  refine ryy [1,8] ?_
  refine .cons rfl (fun K hK=>?_) ?_
  go_simp
  go_at_call 73
  refine (den_any r s sd se Ad Ae nd cd ne ce v0 (b_0.out) (by omega) aB.out.2.1).mono ?_
  rintro e v1 ⟨t1,T1,m1,d1,rfl,hr,hk⟩
  have N_1:=hJ (hr)
  have bC:=hJ hk
  go_wp2_with fail
  have aK:=hJ (bt aJ.out bC.out)
  have b_1:=hJ ((b_0.out).new bC.out)
  clear hHeld
  refine hK.out _ _ (HS.out _ aK.out) (fun hHeld=>?_)
  clear hK K hk bC hr aJ b_0
  try simp only [PT]
  refine ryy [4,8] ?_
  refine .cons rfl (fun K hK=>?_) ?_
  go_simp
  go_at_call 22
  refine (fmake_any s r t1 sd T1 Ad m1 d1 nd cd v1 (N_1.out) (b_1.out.1) aB.out.2.2.2.2.2 aB.out.2.2.2.2.1).mono ?_
  rw [aA.out.1,aA.out.2.1,aA.out.2.2]
  rintro e v2 ⟨t3,T3,m3,d3,t4,T4,m4,d4,rfl,hr,hk⟩
  have R_2:=hJ (hr)
  have aT:=hJ hk
  go_wp2_with fail
  have aU:=hJ (bt aK.out aT.out)
  have b_2:=hJ ((b_1.out).new aT.out)
  have N_2:=hJ (PIo.new N_1.out aT.out)
  clear hHeld
  refine hK.out _ _ (HS.out _ aU.out) (fun hHeld=>?_)
  clear hK K hk aT hr aK b_1 N_1
  refine tq 5 ?_
  refine tq 6 ?_
  refine tq 7 ?_
  try simp only [PT]
  refine ryy [8] ?_
  refine .cons rfl (fun K hK=>?_) .nil
  go_simp
  have aL:=hJ ((Below.refl v2.heap.size v2).alloc (Nat.le_refl _) (.cells #[.bool false,.slice none 0 0,.bool false,.slice none 0 0] 27))
  have aC:=hJ (P4.lit v2 27 (.bool false) (.slice none 0 0) (.bool false) (.slice none 0 0))
  obtain ⟨v3,hV⟩:=nmz (World.alloc v2 (.cells #[.bool false,.slice none 0 0,.bool false,.slice none 0 0] 27))
  obtain ⟨gx,hg⟩:=nmz (v2.heap.size)
  rw [hV] at aL aC  ⊢
  rw [hg] at aC  ⊢
  have aM:=hJ (show W.heap.size≤gx by rw [←hg]; exact aU.out.size)
  have bD:=hJ (bt aU.out aL.out)
  have b_3:=hJ ((b_2.out).new aL.out)
  have N_3:=hJ (PIo.new N_2.out aL.out)
  have R_3:=hJ (PF.new R_2.out aL.out)
  clear hHeld
  refine hK.out _ _ (HS.out _ bD.out) (fun hHeld=>?_)
  clear hK K hV hg aL aU b_2 N_2 R_2
  try simp only [PT]
  refine ryy [9] ?_
  refine .cons rfl (fun K hK=>?_) .nil
  obtain ⟨z0,z1,z2,z3⟩:=aC.out.cells
  have y0:=aC.out.frozen 0
  have y1:=aC.out.frozen 1
  have y2:=aC.out.frozen 2
  have y3:=aC.out.frozen 3
  have z9:=aC.out.lt
  go_simp
  obtain ⟨v4,hV⟩:=nmz (World.setCell (World.setCell (World.setCell (World.setCell v3 ⟨gx,0,none⟩ (.bool t3)) ⟨gx,1,none⟩ (.slice T3 m3 d3)) ⟨gx,2,none⟩ (.bool t4)) ⟨gx,3,none⟩ (.slice T4 m4 d4))
  rw [hV]
  have bN:=hJ (show Below W.heap.size W v4 by rw [←hV]; exact below_box4 bD.out (aM.out) _ _ _ _)
  have b_4:=hJ (show PF v4 sd Ad nd cd se Ae ne ce r s by rw [←hV]; exact PF.box4 (b_3.out) (aC.out) (.bool t3) (.slice T3 m3 d3) (.bool t4) (.slice T4 m4 d4))
  have N_4:=hJ (show PI v4 t1 T1 m1 d1 s by rw [←hV]; exact PIo.box4 (N_3.out) (aC.out) rfl rfl rfl rfl (.bool t3) (.slice T3 m3 d3) (.bool t4) (.slice T4 m4 d4))
  have R_4:=hJ (show PF v4 t3 T3 m3 d3 t4 T4 m4 d4 P Q by rw [←hV]; exact PF.box4 (R_3.out) (aC.out) (.bool t3) (.slice T3 m3 d3) (.bool t4) (.slice T4 m4 d4))
  have bT:=hJ (show P4 27 v4 gx (.bool t3) (.slice T3 m3 d3) (.bool t4) (.slice T4 m4 d4) by rw [←hV]; exact aC.out.all (.bool t3) (.slice T3 m3 d3) (.bool t4) (.slice T4 m4 d4))
  clear hHeld
  refine hK.out _ _ (HS.out _ bN.out) (fun hHeld=>?_)
  clear hK K hV z9 z0 z1 z2 z3 y0 y1 y2 y3 bD b_3 N_3 R_3 aC
  refine tq 10 ?_
  try simp only [PT]
  refine wpAnyH_done (by kernel_rfl) ?_ _
  clear hHeld
  go_wp2_with fail
  go_meet
  exact ⟨gx,t3,T3,m3,d3,t4,T4,m4,d4,rfl,rfl,bT.out,R_4.out,bN.out⟩
  refine .cons rfl (fun K hK=>?_) .nil
  go_simp
  have aN:=hJ ((Below.refl v1.heap.size v1).alloc (Nat.le_refl _) (.cells #[.bool false,.slice none 0 0,.bool false,.slice none 0 0] 27))
  have aV:=hJ (P4.lit v1 27 (.bool false) (.slice none 0 0) (.bool false) (.slice none 0 0))
  obtain ⟨v5,hV⟩:=nmz (World.alloc v1 (.cells #[.bool false,.slice none 0 0,.bool false,.slice none 0 0] 27))
  obtain ⟨gx,hg⟩:=nmz (v1.heap.size)
  rw [hV] at aN aV  ⊢
  rw [hg] at aV  ⊢
  have aM:=hJ (show W.heap.size≤gx by rw [←hg]; exact aK.out.size)
  have bE:=hJ (bt aK.out aN.out)
  have b_5:=hJ ((b_1.out).new aN.out)
  have N_5:=hJ (PIo.new N_1.out aN.out)
  clear hHeld
  refine hK.out _ _ (HS.out _ bE.out) (fun hHeld=>?_)
  clear hK K hV hg aN aK b_1 N_1
  try simp only [PT]
  refine ryy [4] ?_
  refine .cons rfl (fun K hK=>?_) .nil
  go_simp
  go_at_call 22
  refine (fmake_any s r t1 sd T1 Ad m1 d1 nd cd v5 (N_5.out) (b_5.out.1) aB.out.2.2.2.2.2 aB.out.2.2.2.2.1).mono ?_
  rw [aA.out.1,aA.out.2.1,aA.out.2.2]
  rintro e v6 ⟨t3,T3,m3,d3,t4,T4,m4,d4,rfl,hr,hk⟩
  have R_6:=hJ (hr)
  have aO:=hJ hk
  go_wp2_with fail
  have bF:=hJ (bt bE.out aO.out)
  have b_6:=hJ ((b_5.out).new aO.out)
  have N_6:=hJ (PIo.new N_5.out aO.out)
  have aD:=hJ (aV.out.new aO.out)
  clear hHeld
  refine hK.out _ _ (HS.out _ bF.out) (fun hHeld=>?_)
  clear hK K hk aO hr bE b_5 N_5 aV
  refine tq 5 ?_
  refine tq 6 ?_
  refine tq 7 ?_
  try simp only [PT]
  refine ryy [9] ?_
  refine .cons rfl (fun K hK=>?_) .nil
  obtain ⟨z0,z1,z2,z3⟩:=aD.out.cells
  have y0:=aD.out.frozen 0
  have y1:=aD.out.frozen 1
  have y2:=aD.out.frozen 2
  have y3:=aD.out.frozen 3
  have z9:=aD.out.lt
  go_simp
  obtain ⟨v7,hV⟩:=nmz (World.setCell (World.setCell (World.setCell (World.setCell v6 ⟨gx,0,none⟩ (.bool t3)) ⟨gx,1,none⟩ (.slice T3 m3 d3)) ⟨gx,2,none⟩ (.bool t4)) ⟨gx,3,none⟩ (.slice T4 m4 d4))
  rw [hV]
  have bO:=hJ (show Below W.heap.size W v7 by rw [←hV]; exact below_box4 bF.out (aM.out) _ _ _ _)
  have b_7:=hJ (show PF v7 sd Ad nd cd se Ae ne ce r s by rw [←hV]; exact PF.box4 (b_6.out) (aD.out) (.bool t3) (.slice T3 m3 d3) (.bool t4) (.slice T4 m4 d4))
  have N_7:=hJ (show PI v7 t1 T1 m1 d1 s by rw [←hV]; exact PIo.box4 (N_6.out) (aD.out) rfl rfl rfl rfl (.bool t3) (.slice T3 m3 d3) (.bool t4) (.slice T4 m4 d4))
  have R_7:=hJ (show PF v7 t3 T3 m3 d3 t4 T4 m4 d4 P Q by rw [←hV]; exact PF.box4 (R_6.out) (aD.out) (.bool t3) (.slice T3 m3 d3) (.bool t4) (.slice T4 m4 d4))
  have bU:=hJ (show P4 27 v7 gx (.bool t3) (.slice T3 m3 d3) (.bool t4) (.slice T4 m4 d4) by rw [←hV]; exact aD.out.all (.bool t3) (.slice T3 m3 d3) (.bool t4) (.slice T4 m4 d4))
  clear hHeld
  refine hK.out _ _ (HS.out _ bO.out) (fun hHeld=>?_)
  clear hK K hV z9 z0 z1 z2 z3 y0 y1 y2 y3 bF b_6 N_6 R_6 aD
  refine tq 10 ?_
  try simp only [PT]
  refine wpAnyH_done (by kernel_rfl) ?_ _
  clear hHeld
  go_wp2_with fail
  go_meet
  exact ⟨gx,t3,T3,m3,d3,t4,T4,m4,d4,rfl,rfl,bU.out,R_7.out,bO.out⟩
  refine .cons rfl (fun K hK=>?_) .nil
  go_simp
  have aW:=hJ ((Below.refl v0.heap.size v0).alloc (Nat.le_refl _) (.cells #[.bool false,.slice none 0 0,.bool false,.slice none 0 0] 27))
  have aX:=hJ (P4.lit v0 27 (.bool false) (.slice none 0 0) (.bool false) (.slice none 0 0))
  obtain ⟨v8,hV⟩:=nmz (World.alloc v0 (.cells #[.bool false,.slice none 0 0,.bool false,.slice none 0 0] 27))
  obtain ⟨gx,hg⟩:=nmz (v0.heap.size)
  rw [hV] at aW aX  ⊢
  rw [hg] at aX  ⊢
  have aM:=hJ (show W.heap.size≤gx by rw [←hg]; exact aJ.out.size)
  have bG:=hJ (bt aJ.out aW.out)
  have b_8:=hJ ((b_0.out).new aW.out)
  clear hHeld
  refine hK.out _ _ (HS.out _ bG.out) (fun hHeld=>?_)
  clear hK K hV hg aW aJ b_0
  try simp only [PT]
  refine ryy [1] ?_
  refine .cons rfl (fun K hK=>?_) .nil
  go_simp
  go_at_call 73
  refine (den_any r s sd se Ad Ae nd cd ne ce v8 (b_8.out) (by omega) aB.out.2.1).mono ?_
  rintro e v9 ⟨t1,T1,m1,d1,rfl,hr,hk⟩
  have N_9:=hJ (hr)
  have aY:=hJ hk
  go_wp2_with fail
  have bH:=hJ (bt bG.out aY.out)
  have b_9:=hJ ((b_8.out).new aY.out)
  have bP:=hJ (aX.out.new aY.out)
  clear hHeld
  refine hK.out _ _ (HS.out _ bH.out) (fun hHeld=>?_)
  clear hK K hk aY hr bG b_8 aX
  try simp only [PT]
  refine ryy [4] ?_
  refine .cons rfl (fun K hK=>?_) .nil
  go_simp
  go_at_call 22
  refine (fmake_any s r t1 sd T1 Ad m1 d1 nd cd v9 (N_9.out) (b_9.out.1) aB.out.2.2.2.2.2 aB.out.2.2.2.2.1).mono ?_
  rw [aA.out.1,aA.out.2.1,aA.out.2.2]
  rintro e v10 ⟨t3,T3,m3,d3,t4,T4,m4,d4,rfl,hr,hk⟩
  have R_10:=hJ (hr)
  have aR:=hJ hk
  go_wp2_with fail
  have bJ:=hJ (bt bH.out aR.out)
  have b_10:=hJ ((b_9.out).new aR.out)
  have N_10:=hJ (PIo.new N_9.out aR.out)
  have aF:=hJ (bP.out.new aR.out)
  clear hHeld
  refine hK.out _ _ (HS.out _ bJ.out) (fun hHeld=>?_)
  clear hK K hk aR hr bH b_9 N_9 bP
  refine tq 5 ?_
  refine tq 6 ?_
  refine tq 7 ?_
  try simp only [PT]
  refine ryy [9] ?_
  refine .cons rfl (fun K hK=>?_) .nil
  obtain ⟨z0,z1,z2,z3⟩:=aF.out.cells
  have y0:=aF.out.frozen 0
  have y1:=aF.out.frozen 1
  have y2:=aF.out.frozen 2
  have y3:=aF.out.frozen 3
  have z9:=aF.out.lt
  go_simp
  obtain ⟨v11,hV⟩:=nmz (World.setCell (World.setCell (World.setCell (World.setCell v10 ⟨gx,0,none⟩ (.bool t3)) ⟨gx,1,none⟩ (.slice T3 m3 d3)) ⟨gx,2,none⟩ (.bool t4)) ⟨gx,3,none⟩ (.slice T4 m4 d4))
  rw [hV]
  have bQ:=hJ (show Below W.heap.size W v11 by rw [←hV]; exact below_box4 bJ.out (aM.out) _ _ _ _)
  have b_11:=hJ (show PF v11 sd Ad nd cd se Ae ne ce r s by rw [←hV]; exact PF.box4 (b_10.out) (aF.out) (.bool t3) (.slice T3 m3 d3) (.bool t4) (.slice T4 m4 d4))
  have N_11:=hJ (show PI v11 t1 T1 m1 d1 s by rw [←hV]; exact PIo.box4 (N_10.out) (aF.out) rfl rfl rfl rfl (.bool t3) (.slice T3 m3 d3) (.bool t4) (.slice T4 m4 d4))
  have R_11:=hJ (show PF v11 t3 T3 m3 d3 t4 T4 m4 d4 P Q by rw [←hV]; exact PF.box4 (R_10.out) (aF.out) (.bool t3) (.slice T3 m3 d3) (.bool t4) (.slice T4 m4 d4))
  have bV:=hJ (show P4 27 v11 gx (.bool t3) (.slice T3 m3 d3) (.bool t4) (.slice T4 m4 d4) by rw [←hV]; exact aF.out.all (.bool t3) (.slice T3 m3 d3) (.bool t4) (.slice T4 m4 d4))
  clear hHeld
  refine hK.out _ _ (HS.out _ bQ.out) (fun hHeld=>?_)
  clear hK K hV z9 z0 z1 z2 z3 y0 y1 y2 y3 bJ b_10 N_10 R_10 aF
  refine tq 10 ?_
  try simp only [PT]
  refine wpAnyH_done (by kernel_rfl) ?_ _
  clear hHeld
  go_wp2_with fail
  go_meet
  exact ⟨gx,t3,T3,m3,d3,t4,T4,m4,d4,rfl,rfl,bV.out,R_11.out,bQ.out⟩
 case rest =>
  obtain ⟨G,s1,A1,n1,c1,s2,A2,n2,c2,rfl,rfl,hq1,hr1,hbx⟩:=hcut
  have bW:=hJ hq1
  have bX:=hJ hr1
  have aS:=hJ hbx
  obtain ⟨x1,rfl⟩:=nm_world hbx
  clear hq1 hr1 hbx HS bM
  have bY:=hJ (aZ.out.new aS.out)
  have bZ:=hJ (bK.out.new aS.out)
  have aG:=hJ (bA.out.new aS.out)
  have bR:=hJ (bt HK.out aS.out)
  clear aZ bK aI bL bA bS HK aS
  by_cases hr0:r=0
  ·have HC:=hJ (show C=1 by rw [←aA.out.2.2,hr0]; rfl)
   have HV:=hJ (show dvP p q r s=0∧dvQ p q r s=1∧dvC p q r s=1 from ⟨if_pos hr0,if_pos hr0,if_pos hr0⟩)
   rw [HC.out]
   clear hr0 HC
   obtain ⟨z0,z1,z2,z3⟩:=aG.out.cells
   have f0:=aG.out.frozen 0
   have f1:=aG.out.frozen 1
   have f2:=aG.out.frozen 2
   have f3:=aG.out.frozen 3
   go_wp2
   exact bodyPost_ret (results_cell1 rfl _ _ _ _ _ _ _ rfl (aG.out.all (.bool false) (.slice none 0 0) (.bool false) (.slice none 0 0)) Tryz.underlying27 rfl F_size) rfl (by rw [HV.out.1,HV.out.2.1,HV.out.2.2]; exact RetFE.stored (p:=0) (q:=1) ⟨PI.zero _,PI.zero _⟩ aG.out bR.out (by rw [HH.out]; omega) _ _ _ _)
  ·have HC:=hJ (show C=0 by rw [←aA.out.2.2]; exact if_neg hr0)
   have HV:=hJ (show dvP p q r s=muP p q P Q∧dvQ p q r s=muQ p q P Q∧dvC p q r s=muC p q P Q by rw [←aA.out.1,←aA.out.2.1]; exact ⟨if_neg hr0,if_neg hr0,if_neg hr0⟩)
   have HM:=hJ (show 0 < Q∧P.natAbs < lim∧Q.natAbs < lim by rw [←aA.out.1,←aA.out.2.1]; exact ⟨mkQ_pos,mkPQ_lim aB.out.2.2.2.2.2 aB.out.2.2.2.2.1⟩)
   rw [HC.out]
   clear hr0 HC
   obtain ⟨a0,a1,a2,a3⟩:=bY.out.cells
   obtain ⟨g0,g1,g2,g3⟩:=bW.out.cells
   go_wp2_with fail
   refine (fmul_any p q P Q sa sb s1 s2 Aa Ab A1 A2 na ca nb cb n1 c1 n2 c2 x1 bZ.out bX.out aB.out.1 HM.out.1 aB.out.2.2.1 aB.out.2.2.2.1 HM.out.2.1 HM.out.2.2).mono ?_
   rintro e w3 ⟨s3,A3,n3,c3,s4,A4,n4,c4,rfl,hr3,hb3⟩
   have cA:=hJ hr3
   have cB:=hJ (bt bR.out hb3)
   have aH:=hJ (aG.out.new hb3)
   clear hr3 hb3 a0 a1 a2 a3 g0 g1 g2 g3
   obtain ⟨z0,z1,z2,z3⟩:=aH.out.cells
   have f0:=aH.out.frozen 0
   have f1:=aH.out.frozen 1
   have f2:=aH.out.frozen 2
   have f3:=aH.out.frozen 3
   go_wp2
   exact bodyPost_ret (results_cell1 rfl _ _ _ _ _ _ _ rfl (aH.out.all (.bool s3) (.slice A3 n3 c3) (.bool s4) (.slice A4 n4 c4)) Tryz.underlying27 rfl F_size) rfl (by rw [HV.out.1,HV.out.2.1,HV.out.2.2]; exact RetFE.stored cA.out aH.out cB.out (by rw [HH.out]; omega) _ _ _ _)

end Go.Proofs.YtbgfmegepekapaaGreat


namespace Go.Proofs.YtbgfmegepekapaaGreat
open Go.RowKit
attribute [local go_sem ↓] Go.wp_at_zero Go.wp_at_succ
/-- The text of a fraction. -/
def fracT (p q:Int):List UInt8:=if q=1 then decI p else decI p ++ 47 :: decI q
theorem text_sum (a b:List UInt8):ByteArray.mk (a ++ 47 :: b).toArray=ByteArray.mk a.toArray ++ ⟨#[47]⟩ ++ ByteArray.mk b.toArray:=by
 apply ByteArray.ext
 simp [ByteArray.data_append]
set_option maxRecDepth 100000 in
set_option maxHeartbeats 3200000 in
theorem fstring_any (p q:Int) (s s':Bool) (A A':Option Addr) (n c n' c':Nat) (w:World) (hx:PF w s A n c s' A' n' c' p q) (hp:p.natAbs < lim) (hq:q.natAbs < lim) (hq0:0 < q) :
  Calls Tryz.prog 10 #[.agg #[.bool s,.slice A n c,.bool s',.slice A' n' c']] w (RetStr (fracT p q) w):=by
 obtain ⟨W,hW⟩:∃ W,w.alloc (.cells #[.bool s,.slice A n c,.bool s',.slice A' n' c'] 27)=W:=⟨_,rfl⟩
 have HK:=hJ (show Below w.heap.size w W by rw [←hW]; exact (Below.refl _ w).alloc (Nat.le_refl _) _)
 have HA:=hJ (show P4 27 W w.heap.size (.bool s) (.slice A n c) (.bool s') (.slice A' n' c') by rw [←hW]; exact P4.lit _ _ _ _ _ _)
 have hn:=plim hx.1 hp
 have hn':=plim hx.2 (dn_lim hq)
 have HX:=hJ (hx.new HK.out)
 have aM:=hJ (decI_short (lim_big hp))
 have aN:=hJ (decI_short (lim_big hq))
 have aO:=hJ hq0
 clear hx hp hq hq0
 obtain ⟨a0,a1,a2,a3⟩:=HA.out.cells
 obtain ⟨h,hh⟩:∃ h,w.heap.size=h:=⟨_,rfl⟩
 rw [hh] at HA a0 a1 a2 a3
 by_cases h1:q=1
 ·have HE:=hJ (show fracT p q=decI p from if_pos h1)
  have aR:=hJ (PIo.eq HX.out.2 (show dn q=0 by rw [h1]; rfl))
  clear h1
  go_enter Tryz.func10,Tryz.ntmps10
  go_wp2_with fail
  clear hW hh
  refine (sign_any 0 s' A' n' c' W aR.out (by omega)).mono ?_
  rw [cmpI_zz]
  rintro e w1 ⟨rfl,hb1⟩
  have aF:=hJ (bt HK.out hb1)
  have aA:=hJ (HA.out.new hb1)
  have aG:=hJ (PIo.new HX.out.1 hb1)
  clear hb1 a0 a1 a2 a3
  obtain ⟨a0,a1,a2,a3⟩:=aA.out.cells
  go_wp2_with fail
  refine (pstring_any p s A n c w1 aG.out (by omega)).mono ?_
  rintro e w2 ⟨he,hb2⟩
  rw [←HE.out] at he
  subst he
  have aS:=hJ (bt aF.out hb2)
  clear hb2
  go_wp2
  go_ret
  exact ⟨rfl,aS.out⟩
 ·have HE:=hJ (show fracT p q=decI p ++ 47 :: decI q from if_neg h1)
  have aJ:=hJ (PIo.eq HX.out.2 (dn_ne h1))
  have HC:=hJ (cmpI_zero (y:=q) (by have:=aO.out; omega))
  clear h1
  go_enter Tryz.func10,Tryz.ntmps10
  go_wp2_with fail
  clear hW hh
  refine (sign_any q s' A' n' c' W aJ.out (by omega)).mono ?_
  obtain ⟨u,hu⟩:∃ u,cmpI q 0=u:=⟨_,rfl⟩
  rw [hu] at HC ⊢
  have hc:=HC.out
  rintro e w1 ⟨rfl,hb1⟩
  have aF:=hJ (bt HK.out hb1)
  have aA:=hJ (HA.out.new hb1)
  have aG:=hJ (PIo.new HX.out.1 hb1)
  have aT:=hJ (PIo.new aJ.out hb1)
  clear hb1 a0 a1 a2 a3 hu HC
  obtain ⟨D1,hD1⟩:∃ D:ByteArray,ByteArray.mk (decI p).toArray=D:=⟨_,rfl⟩
  obtain ⟨D2,hD2⟩:∃ D:ByteArray,ByteArray.mk (decI q).toArray=D:=⟨_,rfl⟩
  have HZ:=hJ (show D1.size≤5000∧D2.size≤5000 from ⟨by rw [←hD1]; exact aM.out,by rw [←hD2]; exact aN.out⟩)
  have HV:=hJ (show ByteArray.mk (fracT p q).toArray=D1 ++ ⟨#[47]⟩ ++ D2 by rw [HE.out,←hD1,←hD2]; exact text_sum _ _)
  have aK:=hJ (And.intro hD1 hD2)
  have hp1:∀ wx:World,(Op.stringOp .add D1 ⟨#[47]⟩).run Tryz.prog wx=.ok (.string (D1 ++ ⟨#[47]⟩)) wx:=fun wx=>run_string_add_sum wx _ _ (by have:=HZ.out; have e1:(ByteArray.mk #[47]).size=1:=rfl; omega)
  have hp2:∀ wx:World,(Op.stringOp .add (D1 ++ ⟨#[47]⟩) D2).run Tryz.prog wx=.ok (.string (D1 ++ ⟨#[47]⟩ ++ D2)) wx:=fun wx=>run_string_add_sum wx _ _ (by have:=HZ.out; have e1:(ByteArray.mk #[47]).size=1:=rfl; rw [ByteArray.size_append]; omega)
  clear hD1 hD2
  have HS:Hid (∀ w',Below w1.heap.size w1 w'→w'.cell? ⟨h,0,none⟩=some (.bool s)∧w'.cell? ⟨h,1,none⟩=some (.slice A n c)∧w'.cell? ⟨h,2,none⟩=some (.bool s')∧w'.cell? ⟨h,3,none⟩=some (.slice A' n' c')∧Below w1.heap.size w1 w'):=hJ (fun w' hb=>⟨(aA.out.new hb).cells.1,(aA.out.new hb).cells.2.1,(aA.out.new hb).cells.2.2.1,(aA.out.new hb).cells.2.2.2,hb⟩)
  have aU:=hJ (Below.refl w1.heap.size w1)
  go_wp2_with fail
  clear hc
  obtain ⟨v0,hv0⟩:=nmz (World.drew w1)
  have aB:=hJ (show Below w1.heap.size w1 v0 by rw [←hv0]; exact (Below.refl _ _).drew)
  have aH:=hJ (bt aU.out aB.out)
  have X_0:=hJ (PIo.new aG.out aB.out)
  have Y_0:=hJ (PIo.new aT.out aB.out)
  refine wp_region_held_drew (S:=(fun w':World=>w'.cell? ⟨h,0,none⟩=some (.bool s)∧w'.cell? ⟨h,1,none⟩=some (.slice A n c)∧w'.cell? ⟨h,2,none⟩=some (.bool s')∧w'.cell? ⟨h,3,none⟩=some (.slice A' n' c')∧Below w1.heap.size w1 w')) (by kernel_rfl) ?_ (fun hHeld=>?_)
  ·rw [hv0]
   exact HS.out _ aH.out
  rw [hv0] at hHeld ⊢
  clear hv0 aB
  refine tq 0 ?_
  refine tq 1 ?_
  refine tq 4 ?_
  refine tq 5 ?_
  try simp only [PT]
  refine ryy [2] ?_
  refine .cons rfl (fun K hK=>?_) .nil
  go_simp
  go_at_call_of 44 (Value.agg #[.bool s,.slice A n c])
  refine (pstring_any p s A n c v0 (X_0.out) (by omega)).mono ?_
  rintro e v1 ⟨he,hk⟩
  rw [aK.out.1] at he
  subst he
  have aC:=hJ hk
  go_wp2_with fail
  have aI:=hJ (bt aH.out aC.out)
  have X_1:=hJ (PIo.new X_0.out aC.out)
  have Y_1:=hJ (PIo.new Y_0.out aC.out)
  clear hHeld
  refine hK.out _ _ (HS.out _ aI.out) (fun hHeld=>?_)
  clear hK K hk aC aH X_0 Y_0
  refine tq 3 ?_
  try simp only [PT]
  refine ryy [6] ?_
  refine .cons rfl (fun K hK=>?_) .nil
  go_simp
  go_at_call_of 44 (Value.agg #[.bool s',.slice A' n' c'])
  refine (pstring_any q s' A' n' c' v1 (Y_1.out) (by omega)).mono ?_
  rintro e v2 ⟨he,hk⟩
  rw [aK.out.2] at he
  subst he
  have aD:=hJ hk
  go_wp2_with fail
  have aL:=hJ (bt aI.out aD.out)
  have X_2:=hJ (PIo.new X_1.out aD.out)
  have Y_2:=hJ (PIo.new Y_1.out aD.out)
  clear hHeld
  refine hK.out _ _ (HS.out _ aL.out) (fun hHeld=>?_)
  clear hK K hk aD aI X_1 Y_1
  refine tq 7 ?_
  refine tq 8 ?_
  try simp only [PT]
  refine wpAnyH_done (by kernel_rfl) ?_ _
  clear hHeld
  have HL:=hJ (bt aF.out aL.out)
  go_wp2
  go_ret
  exact ⟨by rw [HV.out]; rfl,HL.out⟩
end Go.Proofs.YtbgfmegepekapaaGreat


namespace Go.Proofs.YtbgfmegepekapaaGreat
open Go.RowKit
attribute [local go_sem ↓] Go.wp_at_zero Go.wp_at_succ
theorem dec_slash (x:Int):(47:UInt8) ∉ decI x:=by
 have h1:=isDig_dec x.natAbs
 intro h
 unfold decI at h
 have hd:(47:UInt8) ∉ dec x.natAbs:=fun h2=>by
  have:=h1 _ h2
  exact absurd this.1 (by decide)
 split at h
 ·rcases List.mem_cons.1 h with h | h
  ·exact absurd h (by decide)
  exact hd h
 ·exact hd h
end Go.Proofs.YtbgfmegepekapaaGreat


namespace Go.Proofs.YtbgfmegepekapaaGreat
open Go.RowKit
attribute [local go_sem ↓] Go.wp_at_zero Go.wp_at_succ
/-- The place of the first slash. -/
theorem ix_no {l:List UInt8} (h:(47:UInt8) ∉ l):Lib.indexByte l 47 = -1:=by
 induction l with
 | nil=>rfl
 | cons x l ih =>
  have h1:¬ x=47:=fun e=>h (by rw [e]; exact List.mem_cons_self)
  have h2:=ih (fun m=>h (List.mem_cons_of_mem _ m))
  simp [Lib.indexByte,h1,h2]
theorem ix_yes {a b:List UInt8} (h:(47:UInt8) ∉ a):Lib.indexByte (a ++ 47 :: b) 47=(a.length:Int):=by
 induction a with
 | nil=>simp [Lib.indexByte]
 | cons x l ih =>
  have h1:¬ x=47:=fun e=>h (by rw [e]; exact List.mem_cons_self)
  have h2:=ih (fun m=>h (List.mem_cons_of_mem _ m))
  rw [List.cons_append]
  simp only [Lib.indexByte,h2]
  simp [h1]
theorem slash_cases (l:List UInt8):(47:UInt8) ∉ l∨∃ a b,l=a ++ 47 :: b∧(47:UInt8) ∉ a:=by
 induction l with
 | nil=>exact .inl (by simp)
 | cons x l ih =>
  by_cases h:x=47
  ·exact .inr ⟨[],l,by rw [h]; rfl,by simp⟩
  ·rcases ih with h1 | ⟨a,b,rfl,h1⟩
   ·exact .inl (fun m=>by rcases List.mem_cons.1 m with e | e; exact h e.symm; exact h1 e)
   ·exact .inr ⟨x :: a,b,rfl,fun m=>by rcases List.mem_cons.1 m with e | e; exact h e.symm; exact h1 e⟩
set_option maxHeartbeats 1000000 in
set_option maxRecDepth 100000 in
theorem sl_indexByte (s:ByteArray) (c:Int) (w:World) :
  Calls Tryz.prog 165 #[.string s,.int .u8 c] w fun e w'=>e=.returned (.int .i64 (Lib.indexByte s.data.toList c.toNat.toUInt8))∧w=w':=by
 go_enter Tryz.func165,Tryz.ntmps165
 go_wp2
 rw [run_callFunc_extern Tryz.func175 (by kernel_rfl) (by kernel_rfl) (by kernel_rfl) (e:=Extern.BytealgIndexByte.indexByte) (by kernel_rfl),Lib.run_indexByteString]
 simp only [Result.andThen]
 rw [Oper.upon_value]
 go_wp2
 go_ret
 exact ⟨rfl,rfl⟩
set_option maxHeartbeats 1000000 in
set_option maxRecDepth 100000 in
theorem sl_index (l:List UInt8) (hs:l.length≤1000000) (i:Int) (hi:Lib.indexByte l 47=i) (w:World) :
  Calls Tryz.prog 154 #[.string ⟨l.toArray⟩,.string ⟨#[47]⟩] w fun e w'=>e=.returned (.int .i64 i)∧w=w':=by
 by_cases hl:l=[47]
 ·subst hl
  obtain rfl:i=0:=by rw [←hi]; rfl
  go_enter Tryz.func154,Tryz.ntmps154
  go_wp2
  go_ret
  exact ⟨rfl,rfl⟩
 ·have HI:=hJ hi
  clear hi
  have hne:([47] == l)=false:=beq_eq_false_iff_ne.2 (fun e=>hl e.symm)
  clear hl
  go_enter Tryz.func154,Tryz.ntmps154
  go_wp2_with fail
  refine (sl_indexByte ⟨l.toArray⟩ 47 w).mono ?_
  rintro e w1 ⟨rfl,rfl⟩
  go_wp2
  go_ret
  exact ⟨by rw [←HI.out]; rfl,rfl⟩
/-- What strings.Cut returns for a text without a slash. -/
def RetCt (a b:List UInt8) (f:Bool) (w:World) (e:Ending) (w':World):Prop:=e=.returned (.tuple #[.string ⟨a.toArray⟩,.string ⟨b.toArray⟩,.bool f])∧Below w.heap.size w w'
theorem ext_a (a b:List UInt8):(ByteArray.mk (a ++ 47 :: b).toArray).extract 0 a.length=⟨a.toArray⟩:=by
 apply ByteArray.ext
 rw [ByteArray.data_extract]
 simp
theorem ext_b (a b:List UInt8):(ByteArray.mk (a ++ 47 :: b).toArray).extract (a.length+1) (ByteArray.mk (a ++ 47 :: b).toArray).size=⟨b.toArray⟩:=by
 apply ByteArray.ext
 rw [ByteArray.data_extract]
 have e1:(ByteArray.mk (a ++ 47 :: b).toArray).size=a.length+1+b.length:=by
  show (a ++ 47 :: b).toArray.size=_
  simp
  omega
 rw [e1]
 apply Array.ext'
 simp [List.extract_eq_take_drop]
set_option maxHeartbeats 1000000 in
set_option maxRecDepth 100000 in
theorem slcut_no (l:List UInt8) (hs:l.length≤1000000) (h:(47:UInt8) ∉ l) (w:World) :
  Calls Tryz.prog 134 #[.string ⟨l.toArray⟩,.string ⟨#[47]⟩] w (RetCt l [] false w):=by
 have HI:=hJ (ix_no h)
 have HS:=hJ hs
 clear hs h
 go_enter Tryz.func134,Tryz.ntmps134
 go_wp2_with fail
 refine (sl_index l HS.out (-1) HI.out w).mono ?_
 rintro e w1 ⟨rfl,rfl⟩
 go_wp2
 go_ret3
 exact ⟨rfl,Below.refl _ _⟩
set_option maxHeartbeats 1000000 in
set_option maxRecDepth 100000 in
theorem slcut_yes (a b:List UInt8) (hs:(a ++ 47 :: b).length≤1000000) (h:(47:UInt8) ∉ a) (w:World) :
  Calls Tryz.prog 134 #[.string ⟨(a ++ 47 :: b).toArray⟩,.string ⟨#[47]⟩] w (RetCt a b true w):=by
 have HI:=hJ (ix_yes (b:=b) h)
 have HA:=hJ (ext_a a b)
 have HB:=hJ (ext_b a b)
 have hz:(ByteArray.mk (a ++ 47 :: b).toArray).size=(a ++ 47 :: b).length:=rfl
 obtain ⟨k,hk⟩:∃ k,a.length=k:=⟨_,rfl⟩
 have hl:(a ++ 47 :: b).length=k+1+b.length:=by rw [←hk]; simp; omega
 have HC:=hJ (fun (w:World)=>sl_index (a ++ 47 :: b) hs (k:Int) (by rw [←hk]; exact HI.out) w)
 rw [hk] at HA HB
 clear HI h hk
 obtain ⟨D,hD⟩:∃ D,ByteArray.mk (a ++ 47 :: b).toArray=D:=⟨_,rfl⟩
 rw [hD] at HA HB hz ⊢
 rw [hl] at hz
 have aA:=hJ (fun (w:World)=>(show Calls Tryz.prog 154 #[.string D,.string ⟨#[47]⟩] w _ by rw [←hD]; exact HC.out w))
 have hs2:D.size≤1000001:=by rw [hl] at hs; omega
 clear HC hD hl hs
 have c0:(0:Int)≤(k:Int):=by omega
 have c1:(k:Int)≤(D.size:Int):=by omega
 have c2:(0:Int)≤(k:Int)+1:=by omega
 have c3:(k:Int)+1≤(D.size:Int):=by omega
 have c4:k≤D.size:=by omega
 clear hz
 go_enter Tryz.func134,Tryz.ntmps134
 go_wp2_with fail
 refine (aA.out w).mono ?_
 rintro e w1 ⟨rfl,rfl⟩
 have c5:IntKind.i64.wrap ((k:Int)+1)=(k:Int)+1:=IntWalk.i64_in _ (by omega)
 have aB:Hid (∀ w',Below w.heap.size w w'→(fun w':World=>Below w.heap.size w w') w'):=hJ (fun w' hb=>hb)
 go_wp2_with fail
 obtain ⟨v2,hv2⟩:=nmz (World.drew w)
 have aC:=hJ (show Below w.heap.size w v2 by rw [←hv2]; exact (Below.refl _ _).drew)
 refine whd aB hv2 (fun hHeld=>?_)
 clear hv2
 refine tq 0 ?_
 refine tq 1 ?_
 refine tq 2 ?_
 refine tq 3 ?_
 refine tq 4 ?_
 refine tq 5 ?_
 refine tq 6 ?_
 refine tq 7 ?_
 refine tq 8 ?_
 refine tq 9 ?_
 refine tq 10 ?_
 refine tq 11 ?_
 try simp only [PT]
 refine wpAnyH_done (by kernel_rfl) ?_ _
 clear hHeld
 go_wp2
 go_ret3
 refine ⟨?_,aC.out⟩
 rw [←HA.out,←HB.out]
 rfl
theorem ps_lim (l:List UInt8):(psV l).natAbs < lim:=by
 have h0:0 < lim:=by rw [lim_two]; exact Nat.pow_pos (by decide)
 unfold psV
 split
 ·exact h0
 ·split
  ·unfold outV
   split
   ·assumption
   exact h0
  ·exact h0
theorem num_back {l:List UInt8} (h:isNum l=true):decI (numOf l)=l:=by
 have h1:isDecB (cutL l)=true:=by unfold isNum at h; revert h; cases isDecB (cutL l) <;> simp
 obtain ⟨hd,hne,hh⟩:=isDecB_dig h1
 have hdd:=dec_dval hd hne hh
 unfold numOf
 cases hb:cutB l
 ·have hl:cutL l=l:=by unfold cutL; rw [hb]; rfl
  rw [hl] at hdd ⊢
  rw [show sgn false (dval l)=(dval l:Int) from rfl]
  unfold decI
  rw [if_neg (by omega),Int.natAbs_natCast]
  exact hdd
 ·have hS:(cutL l == [48])=false:=by
   unfold isNum at h; rw [hb] at h; revert h; cases (cutL l == [48]) <;> simp
  have hpos:0 < dval (cutL l):=by
   rcases Nat.eq_zero_or_pos (dval (cutL l)) with e | e
   ·exfalso
    rw [e,dec_lt (by decide)] at hdd
    rw [←hdd] at hS
    exact absurd hS (by decide)
   exact e
  have hl:l=45 :: cutL l:=by
   unfold cutB at hb
   unfold cutL cutB
   rw [hb]
   rcases l with _ | ⟨a,r⟩
   ·exact absurd hb (by decide)
   have:a=45:=by simpa using hb
   subst this; rfl
  rw [show sgn true (dval (cutL l)) = -(dval (cutL l):Int) from rfl]
  unfold decI
  rw [if_pos (by omega),Int.natAbs_neg,Int.natAbs_natCast,hdd]
  exact hl.symm
theorem ps_back (l:List UInt8):psC l=0→decI (psV l)=l:=by
 unfold psC psV
 intro h
 split at h
 ·omega
 ·rename_i hb
  rw [if_neg hb]
  split at h
  ·rename_i hn
   rw [if_pos hn]
   unfold outC at h
   split at h
   ·rename_i hl
    rw [outV,if_pos hl]
    exact num_back hn
   omega
  ·omega
/-- What strings.Cut finds in a text: the part ahead of the first slash, the part behind it. -/
def cutA (l:List UInt8):List UInt8:=l.takeWhile (fun c=>decide (c≠47))
def cutZ (l:List UInt8):List UInt8:=(l.dropWhile (fun c=>decide (c≠47))).drop 1
theorem cut_yes {a b:List UInt8} (h:(47:UInt8) ∉ a):cutA (a ++ 47 :: b)=a∧cutZ (a ++ 47 :: b)=b:=by
 induction a with
 | nil=>exact ⟨by simp [cutA],by simp [cutZ]⟩
 | cons x l ih =>
  have h1:¬ x=47:=fun e=>h (by rw [e]; exact List.mem_cons_self)
  have h2:=ih (fun m=>h (List.mem_cons_of_mem _ m))
  unfold cutA cutZ at h2 ⊢
  rw [List.cons_append,List.takeWhile_cons,List.dropWhile_cons,if_pos (by simpa using h1),if_pos (by simpa using h1),h2.1,h2.2]
  exact ⟨rfl,rfl⟩
/-- What Parse of a fraction returns: numerator, denominator, error. -/
def fqP (l:List UInt8):Int:=if 47 ∈ l then (if fpK (cutA l) (cutZ l) then psV (cutA l) else 0) else (if psC l=0 then psV l else 0)
def fqQ (l:List UInt8):Int:=if 47 ∈ l then (if fpK (cutA l) (cutZ l) then psV (cutZ l) else 1) else 1
def fqC (l:List UInt8):Int:=if 47 ∈ l then (if fpK (cutA l) (cutZ l) then 0 else 2) else (if psC l=0 then 0 else 2)
theorem fq_no {l:List UInt8} (h:(47:UInt8) ∉ l):fqP l=(if psC l=0 then psV l else 0)∧fqQ l=1∧fqC l=(if psC l=0 then 0 else 2):=⟨if_neg h,if_neg h,if_neg h⟩
theorem fq_yes {a b:List UInt8} (h:(47:UInt8) ∉ a):fqP (a ++ 47 :: b)=(if fpK a b then psV a else 0)∧fqQ (a ++ 47 :: b)=(if fpK a b then psV b else 1)∧fqC (a ++ 47 :: b)=(if fpK a b then 0 else 2):=by
 obtain ⟨e1,e2⟩:=cut_yes (b:=b) h
 have m:(47:UInt8) ∈ a ++ 47 :: b:=by simp
 unfold fqP fqQ fqC
 rw [if_pos m,if_pos m,if_pos m,e1,e2]
 exact ⟨rfl,rfl,rfl⟩
theorem fq_good {a b:List UInt8} (h:(47:UInt8) ∉ a) (hk:fpK a b):fqP (a ++ 47 :: b)=psV a∧fqQ (a ++ 47 :: b)=psV b∧fqC (a ++ 47 :: b)=0:=by
 obtain ⟨e1,e2,e3⟩:=fq_yes (b:=b) h
 rw [e1,e2,e3,if_pos hk,if_pos hk,if_pos hk]
 exact ⟨rfl,rfl,rfl⟩
theorem fq_bad {a b:List UInt8} (h:(47:UInt8) ∉ a) (hk:¬ fpK a b):fqP (a ++ 47 :: b)=0∧fqQ (a ++ 47 :: b)=1∧fqC (a ++ 47 :: b)=2:=by
 obtain ⟨e1,e2,e3⟩:=fq_yes (b:=b) h
 rw [e1,e2,e3,if_neg hk,if_neg hk,if_neg hk]
 exact ⟨rfl,rfl,rfl⟩
theorem zero_fr:Fr 0 1:=⟨low_one 0,by rw [lim_two]; exact Nat.pow_pos (by decide),one_lim⟩
theorem fq_fr (l:List UInt8):Fr (fqP l) (fqQ l):=by
 rcases slash_cases l with h | ⟨a,b,rfl,h⟩
 ·obtain ⟨e1,e2,_⟩:=fq_no h
  rw [e1,e2]
  split
  ·exact ⟨low_one _,ps_lim l,one_lim⟩
  exact zero_fr
 ·by_cases hk:fpK a b
  ·obtain ⟨e1,e2,_⟩:=fq_good h hk
   rw [e1,e2]
   exact ⟨⟨hk.2.2.1,hk.2.2.2.2⟩,ps_lim a,ps_lim b⟩
  ·obtain ⟨e1,e2,_⟩:=fq_bad h hk
   rw [e1,e2]
   exact zero_fr
theorem fp_cases (a b:List UInt8):psC a≠0∨(psC a=0∧psC b≠0)∨(psC a=0∧psC b=0∧psV b≤0)∨(psC a=0∧psC b=0∧0 < psV b∧psV b=1)∨(psC a=0∧psC b=0∧0 < psV b∧psV b≠1∧Nat.gcd (psV a).natAbs (psV b).natAbs≠1)∨fpK a b:=by
 by_cases h1:psC a=0
 ·by_cases h2:psC b=0
  ·by_cases h3:0 < psV b
   ·by_cases h4:psV b=1
    ·exact .inr (.inr (.inr (.inl ⟨h1,h2,h3,h4⟩)))
    by_cases h5:Nat.gcd (psV a).natAbs (psV b).natAbs=1
    ·exact .inr (.inr (.inr (.inr (.inr ⟨h1,h2,h3,h4,h5⟩))))
    exact .inr (.inr (.inr (.inr (.inl ⟨h1,h2,h3,h4,h5⟩))))
   exact .inr (.inr (.inl ⟨h1,h2,by omega⟩))
  exact .inr (.inl ⟨h1,h2⟩)
 ·exact .inl h1
theorem pf_zero (w:World):PF w false none 0 0 false none 0 0 0 1:=⟨PI.zero w,PI.zero w⟩
set_option maxHeartbeats 1000000 in
set_option maxRecDepth 100000 in
theorem scut_any (l x y:List UInt8) (f:Bool) (w:World) (h:Calls Tryz.prog 134 #[.string ⟨l.toArray⟩,.string ⟨#[47]⟩] w (RetCt x y f w)) :
  Calls Tryz.prog 95 #[.string ⟨l.toArray⟩,.string ⟨#[47]⟩] w (RetCt x y f w):=by
 have HC:=hJ h
 clear h
 go_enter Tryz.func95,Tryz.ntmps95
 go_wp2_with fail
 refine HC.out.mono ?_
 rintro e w1 ⟨rfl,hb⟩
 have HB:=hJ hb
 clear hb
 go_wp2
 go_ret3
 exact ⟨rfl,HB.out⟩
theorem cut_no_any (l:List UInt8) (hs:l.length≤1000000) (h:(47:UInt8) ∉ l) (w:World) :
  Calls Tryz.prog 95 #[.string ⟨l.toArray⟩,.string ⟨#[47]⟩] w (RetCt l [] false w):=scut_any _ _ _ _ _ (slcut_no l hs h w)
theorem cut_yes_any (a b:List UInt8) (hs:(a ++ 47 :: b).length≤1000000) (h:(47:UInt8) ∉ a) (w:World) :
  Calls Tryz.prog 95 #[.string ⟨(a ++ 47 :: b).toArray⟩,.string ⟨#[47]⟩] w (RetCt a b true w):=scut_any _ _ _ _ _ (slcut_yes a b hs h w)
set_option maxRecDepth 100000 in
set_option maxHeartbeats 1600000 in
theorem fparse_yes (a b:List UInt8) (w:World) (hs:(a ++ 47 :: b).length≤100000) (h:(47:UInt8) ∉ a) :
  Calls Tryz.prog 51 #[.string ⟨(a ++ 47 :: b).toArray⟩] w (RetFE (fqP (a ++ 47 :: b)) (fqQ (a ++ 47 :: b)) (fqC (a ++ 47 :: b)) w):=by
 have HS:=hJ hs
 have HN:=hJ h
 have hlen:(a ++ 47 :: b).length=a.length+1+b.length:=by simp; omega
 have aJ:=hJ (show a.length≤100000 by omega)
 have aO:=hJ (show b.length≤100000 by omega)
 clear hs h hlen
 rcases fp_cases a b with h1 | ⟨h1,h2⟩ | ⟨h1,h2,h3⟩ | ⟨h1,h2,h3,h4⟩ | ⟨h1,h2,h3,h4,h5⟩ | hk
 ·have HR:=hJ (fq_bad HN.out (b:=b) (fun k=>h1 k.1))
  obtain ⟨ca,hca⟩:=nmz (psC a)
  have aA:=hJ hca
  rw [hca] at h1
  clear hca
  obtain ⟨x1,aX⟩:=nmz (w.alloc (.cells #[.bool false,.slice none 0 0,.bool false,.slice none 0 0] 27))
  have eG:=hJ (show Below w.heap.size w x1 by rw [←aX]; exact ((Below.refl _ _).alloc (Nat.le_refl _) _))
  have eH:=hJ (show BX 27 x1 w.heap.size #[.bool false,.slice none 0 0,.bool false,.slice none 0 0] by rw [←aX]; exact (BX.at rfl))
  have eI:=hJ (show w.heap.size≤w.heap.size by omega)
  go_enter Tryz.func51,Tryz.ntmps51
  go_wp2_with fail
  clear aX
  refine (cut_yes_any a b (Nat.le_trans HS.out (by decide)) HN.out x1).mono ?_
  rintro e w2 ⟨rfl,hb⟩
  have cB:=hJ hb
  clear hb
  go_wp2_with fail
  refine (pparse_any a w2 aJ.out).mono ?_
  rw [aA.out]
  rintro e w3 ⟨s11,A11,n11,c11,rfl,hr11,hb⟩
  have cC:=hJ hb
  clear hb hr11
  obtain ⟨x4,cD⟩:=nmz (w3.alloc (.cells #[.bool s11,.slice A11 n11 c11] 25))
  have cE:=hJ (show Below w3.heap.size w3 x4 by rw [←cD]; exact ((Below.refl _ _).alloc (Nat.le_refl _) _))
  have eJ:=hJ (bt (bt cB.out cC.out) cE.out)
  have aC:=hJ (BX.new eH.out eJ.out)
  have eK:=aC.out.frozen 0
  have eL:=aC.out.cell 0 rfl
  have eM:=aC.out.frozen 1
  have eN:=aC.out.cell 1 rfl
  have eO:=aC.out.frozen 2
  have eP:=aC.out.cell 2 rfl
  have eQ:=aC.out.frozen 3
  have eR:=aC.out.cell 3 rfl
  obtain ⟨x5,cF⟩:=nmz (World.setCell (World.setCell (World.setCell (World.setCell x4 ⟨w.heap.size,0,none⟩ (.bool false)) ⟨w.heap.size,1,none⟩ (.slice none 0 0)) ⟨w.heap.size,2,none⟩ (.bool false)) ⟨w.heap.size,3,none⟩ (.slice none 0 0))
  have cG:=hJ (show sto x4 w.heap.size 0 [.bool false,.slice none 0 0,.bool false,.slice none 0 0]=x5 from cF)
  have eS:=hJ (show BX 27 x5 w.heap.size #[.bool false,.slice none 0 0,.bool false,.slice none 0 0] by rw [←cG.out]; exact BX.put aC.out _ _)
  have eT:=hJ (show Below w.heap.size w x5 by rw [←cG.out]; exact below_sto (bt (bt (bt eG.out cB.out) cC.out) cE.out) eI.out _ _)
  go_wp2
  clear cD eK eL eM eN eO eP eQ eR cF
  exact bodyPost_ret (results_cell1 rfl _ _ _ _ _ _ _ rfl eS.out Tryz.underlying27 rfl F_size) rfl (by rw [HR.out.1,HR.out.2.1,HR.out.2.2]; exact ⟨false,none,0,0,false,none,0,0,rfl,pf_zero _,eT.out⟩)
 ·have HR:=hJ (fq_bad HN.out (b:=b) (fun k=>h2 k.2.1))
  have aA:=hJ h1
  obtain ⟨cb,hcb⟩:=nmz (psC b)
  have aD:=hJ hcb
  rw [hcb] at h2
  clear hcb h1
  obtain ⟨x6,aY⟩:=nmz (w.alloc (.cells #[.bool false,.slice none 0 0,.bool false,.slice none 0 0] 27))
  have eU:=hJ (show Below w.heap.size w x6 by rw [←aY]; exact ((Below.refl _ _).alloc (Nat.le_refl _) _))
  have eV:=hJ (show BX 27 x6 w.heap.size #[.bool false,.slice none 0 0,.bool false,.slice none 0 0] by rw [←aY]; exact (BX.at rfl))
  have eW:=hJ (show w.heap.size≤w.heap.size by omega)
  go_enter Tryz.func51,Tryz.ntmps51
  go_wp2_with fail
  clear aY
  refine (cut_yes_any a b (Nat.le_trans HS.out (by decide)) HN.out x6).mono ?_
  rintro e w7 ⟨rfl,hb⟩
  have cH:=hJ hb
  clear hb
  go_wp2_with fail
  refine (pparse_any a w7 aJ.out).mono ?_
  rw [aA.out]
  rintro e w8 ⟨s12,A12,n12,c12,rfl,hr12,hb⟩
  have cI:=hJ hb
  clear hb hr12
  obtain ⟨x9,cJ⟩:=nmz (w8.alloc (.cells #[.bool s12,.slice A12 n12 c12] 25))
  have cK:=hJ (show Below w8.heap.size w8 x9 by rw [←cJ]; exact ((Below.refl _ _).alloc (Nat.le_refl _) _))
  go_wp2_with fail
  clear cJ
  refine (pparse_any b x9 aO.out).mono ?_
  rw [aD.out]
  rintro e w10 ⟨s13,A13,n13,c13,rfl,hr13,hb⟩
  have cL:=hJ hb
  clear hb hr13
  obtain ⟨x11,cM⟩:=nmz (w10.alloc (.cells #[.bool s13,.slice A13 n13 c13] 25))
  have cN:=hJ (show Below w10.heap.size w10 x11 by rw [←cM]; exact ((Below.refl _ _).alloc (Nat.le_refl _) _))
  have eX:=hJ (bt (bt (bt (bt cH.out cI.out) cK.out) cL.out) cN.out)
  have aF:=hJ (BX.new eV.out eX.out)
  have eY:=aF.out.frozen 0
  have eZ:=aF.out.cell 0 rfl
  have fA:=aF.out.frozen 1
  have fB:=aF.out.cell 1 rfl
  have fC:=aF.out.frozen 2
  have fD:=aF.out.cell 2 rfl
  have fE:=aF.out.frozen 3
  have fF:=aF.out.cell 3 rfl
  obtain ⟨x12,cO⟩:=nmz (World.setCell (World.setCell (World.setCell (World.setCell x11 ⟨w.heap.size,0,none⟩ (.bool false)) ⟨w.heap.size,1,none⟩ (.slice none 0 0)) ⟨w.heap.size,2,none⟩ (.bool false)) ⟨w.heap.size,3,none⟩ (.slice none 0 0))
  have cP:=hJ (show sto x11 w.heap.size 0 [.bool false,.slice none 0 0,.bool false,.slice none 0 0]=x12 from cO)
  have fG:=hJ (show BX 27 x12 w.heap.size #[.bool false,.slice none 0 0,.bool false,.slice none 0 0] by rw [←cP.out]; exact BX.put aF.out _ _)
  have fH:=hJ (show Below w.heap.size w x12 by rw [←cP.out]; exact below_sto (bt (bt (bt (bt (bt eU.out cH.out) cI.out) cK.out) cL.out) cN.out) eW.out _ _)
  go_wp2
  clear cM eY eZ fA fB fC fD fE fF cO
  exact bodyPost_ret (results_cell1 rfl _ _ _ _ _ _ _ rfl fG.out Tryz.underlying27 rfl F_size) rfl (by rw [HR.out.1,HR.out.2.1,HR.out.2.2]; exact ⟨false,none,0,0,false,none,0,0,rfl,pf_zero _,fH.out⟩)
 ·have HR:=hJ (fq_bad HN.out (b:=b) (fun k=>by have:=k.2.2.1; omega))
  have aA:=hJ h1
  have aD:=hJ h2
  clear h1 h2
  obtain ⟨u,hu⟩:=nmz (cmpI (psV b) 0)
  have HU:=hJ hu
  have hu0:u≤0:=by rw [←hu]; unfold cmpI; split; decide; rw [if_neg (by omega)]; decide
  clear hu h3
  obtain ⟨x13,aZ⟩:=nmz (w.alloc (.cells #[.bool false,.slice none 0 0,.bool false,.slice none 0 0] 27))
  have fI:=hJ (show Below w.heap.size w x13 by rw [←aZ]; exact ((Below.refl _ _).alloc (Nat.le_refl _) _))
  have fJ:=hJ (show BX 27 x13 w.heap.size #[.bool false,.slice none 0 0,.bool false,.slice none 0 0] by rw [←aZ]; exact (BX.at rfl))
  have fK:=hJ (show w.heap.size≤w.heap.size by omega)
  go_enter Tryz.func51,Tryz.ntmps51
  go_wp2_with fail
  clear aZ
  refine (cut_yes_any a b (Nat.le_trans HS.out (by decide)) HN.out x13).mono ?_
  rintro e w14 ⟨rfl,hb⟩
  have cQ:=hJ hb
  clear hb
  go_wp2_with fail
  refine (pparse_any a w14 aJ.out).mono ?_
  rw [aA.out]
  rintro e w15 ⟨s14,A14,n14,c14,rfl,hr14,hb⟩
  have cR:=hJ hb
  clear hb hr14
  obtain ⟨x16,cS⟩:=nmz (w15.alloc (.cells #[.bool s14,.slice A14 n14 c14] 25))
  have cT:=hJ (show Below w15.heap.size w15 x16 by rw [←cS]; exact ((Below.refl _ _).alloc (Nat.le_refl _) _))
  go_wp2_with fail
  clear cS
  refine (pparse_any b x16 aO.out).mono ?_
  rw [aD.out]
  rintro e w17 ⟨s15,A15,n15,c15,rfl,hr15,hb⟩
  have cU:=hJ hb
  have fL:=hJ hr15
  clear hb hr15
  obtain ⟨x18,bA⟩:=nmz (w17.alloc (.cells #[.bool s15,.slice A15 n15 c15] 25))
  have bB:=hJ (show Below w17.heap.size w17 x18 by rw [←bA]; exact ((Below.refl _ _).alloc (Nat.le_refl _) _))
  have fM:=hJ (show BX 25 x18 w17.heap.size #[.bool s15,.slice A15 n15 c15] by rw [←bA]; exact (BX.at rfl))
  obtain ⟨fN,fO⟩:=fM.out.c2 0 1 rfl rfl
  have cV:=hJ (PIo.new fL.out bB.out)
  go_wp2_with fail
  clear bA fN fO
  refine (sign_any (psV b) s15 A15 n15 c15 x18 cV.out (Nat.le_trans (plim cV.out (ps_lim b)) (by decide))).mono ?_
  rw [HU.out]
  rintro e w21 ⟨rfl,hb⟩
  have cW:=hJ hb
  clear hb
  have fP:=hJ (bt (bt (bt (bt (bt cQ.out cR.out) cT.out) cU.out) bB.out) cW.out)
  have aG:=hJ (BX.new fJ.out fP.out)
  have fQ:=aG.out.frozen 0
  have fR:=aG.out.cell 0 rfl
  have fS:=aG.out.frozen 1
  have fT:=aG.out.cell 1 rfl
  have fU:=aG.out.frozen 2
  have fV:=aG.out.cell 2 rfl
  have fW:=aG.out.frozen 3
  have fX:=aG.out.cell 3 rfl
  obtain ⟨x22,cX⟩:=nmz (World.setCell (World.setCell (World.setCell (World.setCell w21 ⟨w.heap.size,0,none⟩ (.bool false)) ⟨w.heap.size,1,none⟩ (.slice none 0 0)) ⟨w.heap.size,2,none⟩ (.bool false)) ⟨w.heap.size,3,none⟩ (.slice none 0 0))
  have cY:=hJ (show sto w21 w.heap.size 0 [.bool false,.slice none 0 0,.bool false,.slice none 0 0]=x22 from cX)
  have fY:=hJ (show BX 27 x22 w.heap.size #[.bool false,.slice none 0 0,.bool false,.slice none 0 0] by rw [←cY.out]; exact BX.put aG.out _ _)
  have fZ:=hJ (show Below w.heap.size w x22 by rw [←cY.out]; exact below_sto (bt (bt (bt (bt (bt (bt fI.out cQ.out) cR.out) cT.out) cU.out) bB.out) cW.out) fK.out _ _)
  go_wp2
  clear fQ fR fS fT fU fV fW fX cX
  exact bodyPost_ret (results_cell1 rfl _ _ _ _ _ _ _ rfl fY.out Tryz.underlying27 rfl F_size) rfl (by rw [HR.out.1,HR.out.2.1,HR.out.2.2]; exact ⟨false,none,0,0,false,none,0,0,rfl,pf_zero _,fZ.out⟩)
 ·have HR:=hJ (fq_bad HN.out (b:=b) (fun k=>k.2.2.2.1 h4))
  have aA:=hJ h1
  have aD:=hJ h2
  clear h1 h2
  have HU:=hJ (show cmpI (psV b) 0=1 by unfold cmpI; rw [if_neg (by omega),if_pos h3])
  have HO:=hJ (show oneB (psV b)=true from decide_eq_true h4)
  clear h3 h4
  obtain ⟨x23,bC⟩:=nmz (w.alloc (.cells #[.bool false,.slice none 0 0,.bool false,.slice none 0 0] 27))
  have gA:=hJ (show Below w.heap.size w x23 by rw [←bC]; exact ((Below.refl _ _).alloc (Nat.le_refl _) _))
  have gB:=hJ (show BX 27 x23 w.heap.size #[.bool false,.slice none 0 0,.bool false,.slice none 0 0] by rw [←bC]; exact (BX.at rfl))
  have gC:=hJ (show w.heap.size≤w.heap.size by omega)
  go_enter Tryz.func51,Tryz.ntmps51
  go_wp2_with fail
  clear bC
  refine (cut_yes_any a b (Nat.le_trans HS.out (by decide)) HN.out x23).mono ?_
  rintro e w24 ⟨rfl,hb⟩
  have cZ:=hJ hb
  clear hb
  go_wp2_with fail
  refine (pparse_any a w24 aJ.out).mono ?_
  rw [aA.out]
  rintro e w25 ⟨s16,A16,n16,c16,rfl,hr16,hb⟩
  have dA:=hJ hb
  clear hb hr16
  obtain ⟨x26,dB⟩:=nmz (w25.alloc (.cells #[.bool s16,.slice A16 n16 c16] 25))
  have dD:=hJ (show Below w25.heap.size w25 x26 by rw [←dB]; exact ((Below.refl _ _).alloc (Nat.le_refl _) _))
  go_wp2_with fail
  clear dB
  refine (pparse_any b x26 aO.out).mono ?_
  rw [aD.out]
  rintro e w27 ⟨s17,A17,n17,c17,rfl,hr17,hb⟩
  have dE:=hJ hb
  have gD:=hJ hr17
  clear hb hr17
  obtain ⟨x28,bD⟩:=nmz (w27.alloc (.cells #[.bool s17,.slice A17 n17 c17] 25))
  have bE:=hJ (show Below w27.heap.size w27 x28 by rw [←bD]; exact ((Below.refl _ _).alloc (Nat.le_refl _) _))
  have dF:=hJ (show BX 25 x28 w27.heap.size #[.bool s17,.slice A17 n17 c17] by rw [←bD]; exact (BX.at rfl))
  obtain ⟨gE,gF⟩:=dF.out.c2 0 1 rfl rfl
  have bF:=hJ (PIo.new gD.out bE.out)
  go_wp2_with fail
  clear bD gE gF
  refine (sign_any (psV b) s17 A17 n17 c17 x28 bF.out (Nat.le_trans (plim bF.out (ps_lim b)) (by decide))).mono ?_
  rw [HU.out]
  rintro e w31 ⟨rfl,hb⟩
  have aT:=hJ hb
  clear hb
  have gG:=hJ (BX.new dF.out aT.out)
  obtain ⟨gH,gI⟩:=gG.out.c2 0 1 rfl rfl
  have dG:=hJ (PIo.new bF.out aT.out)
  go_wp2_with fail
  clear gH gI
  refine (isone_any (psV b) s17 A17 n17 c17 w31 dG.out (Nat.le_trans (plim dG.out (ps_lim b)) (by decide))).mono ?_
  rw [HO.out]
  rintro e w34 ⟨rfl,hb⟩
  have dH:=hJ hb
  clear hb
  have gJ:=hJ (bt (bt (bt (bt (bt (bt cZ.out dA.out) dD.out) dE.out) bE.out) aT.out) dH.out)
  have aH:=hJ (BX.new gB.out gJ.out)
  have gK:=aH.out.frozen 0
  have gL:=aH.out.cell 0 rfl
  have gM:=aH.out.frozen 1
  have gN:=aH.out.cell 1 rfl
  have gO:=aH.out.frozen 2
  have gP:=aH.out.cell 2 rfl
  have gQ:=aH.out.frozen 3
  have gR:=aH.out.cell 3 rfl
  obtain ⟨x35,dI⟩:=nmz (World.setCell (World.setCell (World.setCell (World.setCell w34 ⟨w.heap.size,0,none⟩ (.bool false)) ⟨w.heap.size,1,none⟩ (.slice none 0 0)) ⟨w.heap.size,2,none⟩ (.bool false)) ⟨w.heap.size,3,none⟩ (.slice none 0 0))
  have dJ:=hJ (show sto w34 w.heap.size 0 [.bool false,.slice none 0 0,.bool false,.slice none 0 0]=x35 from dI)
  have gS:=hJ (show BX 27 x35 w.heap.size #[.bool false,.slice none 0 0,.bool false,.slice none 0 0] by rw [←dJ.out]; exact BX.put aH.out _ _)
  have gT:=hJ (show Below w.heap.size w x35 by rw [←dJ.out]; exact below_sto (bt (bt (bt (bt (bt (bt (bt gA.out cZ.out) dA.out) dD.out) dE.out) bE.out) aT.out) dH.out) gC.out _ _)
  go_wp2
  clear gK gL gM gN gO gP gQ gR dI
  exact bodyPost_ret (results_cell1 rfl _ _ _ _ _ _ _ rfl gS.out Tryz.underlying27 rfl F_size) rfl (by rw [HR.out.1,HR.out.2.1,HR.out.2.2]; exact ⟨false,none,0,0,false,none,0,0,rfl,pf_zero _,gT.out⟩)
 ·have HR:=hJ (fq_bad HN.out (b:=b) (fun k=>h5 k.2.2.2.2))
  have aA:=hJ h1
  have aD:=hJ h2
  clear h1 h2
  have HU:=hJ (show cmpI (psV b) 0=1 by unfold cmpI; rw [if_neg (by omega),if_pos h3])
  have HO:=hJ (show oneB (psV b)=false from decide_eq_false h4)
  have HG:=hJ (show oneB ((Nat.gcd (psV a).natAbs (psV b).natAbs:Nat):Int)=false from decide_eq_false (by omega))
  have bG:=hJ (show ((Nat.gcd (psV a).natAbs (psV b).natAbs:Nat):Int).natAbs < lim by rw [Int.natAbs_natCast]; exact Nat.lt_of_le_of_lt (Nat.gcd_le_right _ (by omega)) (ps_lim b))
  clear h3 h4 h5
  obtain ⟨x36,bH⟩:=nmz (w.alloc (.cells #[.bool false,.slice none 0 0,.bool false,.slice none 0 0] 27))
  have gU:=hJ (show Below w.heap.size w x36 by rw [←bH]; exact ((Below.refl _ _).alloc (Nat.le_refl _) _))
  have gV:=hJ (show BX 27 x36 w.heap.size #[.bool false,.slice none 0 0,.bool false,.slice none 0 0] by rw [←bH]; exact (BX.at rfl))
  have gW:=hJ (show w.heap.size≤w.heap.size by omega)
  go_enter Tryz.func51,Tryz.ntmps51
  go_wp2_with fail
  clear bH
  refine (cut_yes_any a b (Nat.le_trans HS.out (by decide)) HN.out x36).mono ?_
  rintro e w37 ⟨rfl,hb⟩
  have dK:=hJ hb
  clear hb
  go_wp2_with fail
  refine (pparse_any a w37 aJ.out).mono ?_
  rw [aA.out]
  rintro e w38 ⟨s18,A18,n18,c18,rfl,hr18,hb⟩
  have dL:=hJ hb
  have gX:=hJ hr18
  clear hb hr18
  obtain ⟨x39,bJ⟩:=nmz (w38.alloc (.cells #[.bool s18,.slice A18 n18 c18] 25))
  have bK:=hJ (show Below w38.heap.size w38 x39 by rw [←bJ]; exact ((Below.refl _ _).alloc (Nat.le_refl _) _))
  have gY:=hJ (show BX 25 x39 w38.heap.size #[.bool s18,.slice A18 n18 c18] by rw [←bJ]; exact (BX.at rfl))
  go_wp2_with fail
  clear bJ
  refine (pparse_any b x39 aO.out).mono ?_
  rw [aD.out]
  rintro e w40 ⟨s19,A19,n19,c19,rfl,hr19,hb⟩
  have aU:=hJ hb
  have gZ:=hJ hr19
  clear hb hr19
  obtain ⟨x41,bL⟩:=nmz (w40.alloc (.cells #[.bool s19,.slice A19 n19 c19] 25))
  have aR:=hJ (show Below w40.heap.size w40 x41 by rw [←bL]; exact ((Below.refl _ _).alloc (Nat.le_refl _) _))
  have dM:=hJ (show BX 25 x41 w40.heap.size #[.bool s19,.slice A19 n19 c19] by rw [←bL]; exact (BX.at rfl))
  obtain ⟨hA,hB⟩:=dM.out.c2 0 1 rfl rfl
  have bM:=hJ (PIo.new gZ.out aR.out)
  go_wp2_with fail
  clear bL hA hB
  refine (sign_any (psV b) s19 A19 n19 c19 x41 bM.out (Nat.le_trans (plim bM.out (ps_lim b)) (by decide))).mono ?_
  rw [HU.out]
  rintro e w44 ⟨rfl,hb⟩
  have aK:=hJ hb
  clear hb
  have dN:=hJ (BX.new dM.out aK.out)
  obtain ⟨hC,hD⟩:=dN.out.c2 0 1 rfl rfl
  have bN:=hJ (PIo.new bM.out aK.out)
  go_wp2_with fail
  clear hC hD
  refine (isone_any (psV b) s19 A19 n19 c19 w44 bN.out (Nat.le_trans (plim bN.out (ps_lim b)) (by decide))).mono ?_
  rw [HO.out]
  rintro e w47 ⟨rfl,hb⟩
  have aL:=hJ hb
  clear hb
  have bO:=hJ (bt (bt (bt aU.out aR.out) aK.out) aL.out)
  have hE:=hJ (BX.new gY.out bO.out)
  obtain ⟨hF,hG⟩:=hE.out.c2 0 1 rfl rfl
  have hH:=hJ (BX.new dN.out aL.out)
  obtain ⟨hI,hK⟩:=hH.out.c2 0 1 rfl rfl
  have bP:=hJ (bt (bt (bt (bt bK.out aU.out) aR.out) aK.out) aL.out)
  have dO:=hJ (PIo.new gX.out bP.out)
  have dP:=hJ (PIo.new bN.out aL.out)
  go_wp2_with fail
  clear hF hG hI hK
  refine (fcommon_any (psV a) (psV b) s18 s19 A18 A19 n18 c18 n19 c19 w47 dO.out dP.out (Nat.le_trans (plim dO.out (ps_lim a)) (by decide)) (Nat.le_trans (plim dP.out (ps_lim b)) (by decide))).mono ?_
  rintro e w52 ⟨s20,A20,n20,c20,rfl,hr20,hb⟩
  have dQ:=hJ hb
  have dR:=hJ hr20
  clear hb hr20
  go_wp2_with fail
  refine (isone_any (((Nat.gcd (psV a).natAbs (psV b).natAbs:Nat):Int)) s20 A20 n20 c20 w52 dR.out (Nat.le_trans (plim dR.out bG.out) (by decide))).mono ?_
  rw [HG.out]
  rintro e w53 ⟨rfl,hb⟩
  have dS:=hJ hb
  clear hb
  have hL:=hJ (bt (bt (bt (bt (bt (bt (bt (bt dK.out dL.out) bK.out) aU.out) aR.out) aK.out) aL.out) dQ.out) dS.out)
  have aI:=hJ (BX.new gV.out hL.out)
  have hM:=aI.out.frozen 0
  have hN:=aI.out.cell 0 rfl
  have hO:=aI.out.frozen 1
  have hP:=aI.out.cell 1 rfl
  have hQ:=aI.out.frozen 2
  have hR:=aI.out.cell 2 rfl
  have hS:=aI.out.frozen 3
  have hT:=aI.out.cell 3 rfl
  obtain ⟨x54,dT⟩:=nmz (World.setCell (World.setCell (World.setCell (World.setCell w53 ⟨w.heap.size,0,none⟩ (.bool false)) ⟨w.heap.size,1,none⟩ (.slice none 0 0)) ⟨w.heap.size,2,none⟩ (.bool false)) ⟨w.heap.size,3,none⟩ (.slice none 0 0))
  have dU:=hJ (show sto w53 w.heap.size 0 [.bool false,.slice none 0 0,.bool false,.slice none 0 0]=x54 from dT)
  have hU:=hJ (show BX 27 x54 w.heap.size #[.bool false,.slice none 0 0,.bool false,.slice none 0 0] by rw [←dU.out]; exact BX.put aI.out _ _)
  have hV:=hJ (show Below w.heap.size w x54 by rw [←dU.out]; exact below_sto (bt (bt (bt (bt (bt (bt (bt (bt (bt gU.out dK.out) dL.out) bK.out) aU.out) aR.out) aK.out) aL.out) dQ.out) dS.out) gW.out _ _)
  go_wp2
  clear hM hN hO hP hQ hR hS hT dT
  exact bodyPost_ret (results_cell1 rfl _ _ _ _ _ _ _ rfl hU.out Tryz.underlying27 rfl F_size) rfl (by rw [HR.out.1,HR.out.2.1,HR.out.2.2]; exact ⟨false,none,0,0,false,none,0,0,rfl,pf_zero _,hV.out⟩)
 ·have HR:=hJ (fq_good HN.out hk)
  obtain ⟨h1,h2,h3,h4,h5⟩:=hk
  have aA:=hJ h1
  have aD:=hJ h2
  clear h1 h2
  have HU:=hJ (show cmpI (psV b) 0=1 by unfold cmpI; rw [if_neg (by omega),if_pos h3])
  have HO:=hJ (show oneB (psV b)=false from decide_eq_false h4)
  have HG:=hJ (show oneB ((Nat.gcd (psV a).natAbs (psV b).natAbs:Nat):Int)=true from decide_eq_true (by omega))
  have bG:=hJ (show ((Nat.gcd (psV a).natAbs (psV b).natAbs:Nat):Int).natAbs < lim by rw [Int.natAbs_natCast]; exact Nat.lt_of_le_of_lt (Nat.gcd_le_right _ (by omega)) (ps_lim b))
  clear h3 h4 h5
  obtain ⟨x55,bQ⟩:=nmz (w.alloc (.cells #[.bool false,.slice none 0 0,.bool false,.slice none 0 0] 27))
  have hW:=hJ (show Below w.heap.size w x55 by rw [←bQ]; exact ((Below.refl _ _).alloc (Nat.le_refl _) _))
  have hX:=hJ (show BX 27 x55 w.heap.size #[.bool false,.slice none 0 0,.bool false,.slice none 0 0] by rw [←bQ]; exact (BX.at rfl))
  have hY:=hJ (show w.heap.size≤w.heap.size by omega)
  go_enter Tryz.func51,Tryz.ntmps51
  go_wp2_with fail
  clear bQ
  refine (cut_yes_any a b (Nat.le_trans HS.out (by decide)) HN.out x55).mono ?_
  rintro e w56 ⟨rfl,hb⟩
  have dW:=hJ hb
  clear hb
  go_wp2_with fail
  refine (pparse_any a w56 aJ.out).mono ?_
  rw [aA.out]
  rintro e w57 ⟨s21,A21,n21,c21,rfl,hr21,hb⟩
  have dX:=hJ hb
  have hZ:=hJ hr21
  clear hb hr21
  obtain ⟨x58,bR⟩:=nmz (w57.alloc (.cells #[.bool s21,.slice A21 n21 c21] 25))
  have bS:=hJ (show Below w57.heap.size w57 x58 by rw [←bR]; exact ((Below.refl _ _).alloc (Nat.le_refl _) _))
  have iA:=hJ (show BX 25 x58 w57.heap.size #[.bool s21,.slice A21 n21 c21] by rw [←bR]; exact (BX.at rfl))
  go_wp2_with fail
  clear bR
  refine (pparse_any b x58 aO.out).mono ?_
  rw [aD.out]
  rintro e w59 ⟨s22,A22,n22,c22,rfl,hr22,hb⟩
  have aV:=hJ hb
  have iB:=hJ hr22
  clear hb hr22
  obtain ⟨x60,bT⟩:=nmz (w59.alloc (.cells #[.bool s22,.slice A22 n22 c22] 25))
  have aS:=hJ (show Below w59.heap.size w59 x60 by rw [←bT]; exact ((Below.refl _ _).alloc (Nat.le_refl _) _))
  have dY:=hJ (show BX 25 x60 w59.heap.size #[.bool s22,.slice A22 n22 c22] by rw [←bT]; exact (BX.at rfl))
  obtain ⟨iC,iD⟩:=dY.out.c2 0 1 rfl rfl
  have bU:=hJ (PIo.new iB.out aS.out)
  go_wp2_with fail
  clear bT iC iD
  refine (sign_any (psV b) s22 A22 n22 c22 x60 bU.out (Nat.le_trans (plim bU.out (ps_lim b)) (by decide))).mono ?_
  rw [HU.out]
  rintro e w63 ⟨rfl,hb⟩
  have aM:=hJ hb
  clear hb
  have dZ:=hJ (BX.new dY.out aM.out)
  obtain ⟨iE,iF⟩:=dZ.out.c2 0 1 rfl rfl
  have bV:=hJ (PIo.new bU.out aM.out)
  go_wp2_with fail
  clear iE iF
  refine (isone_any (psV b) s22 A22 n22 c22 w63 bV.out (Nat.le_trans (plim bV.out (ps_lim b)) (by decide))).mono ?_
  rw [HO.out]
  rintro e w66 ⟨rfl,hb⟩
  have aN:=hJ hb
  clear hb
  have bO:=hJ (bt (bt (bt aV.out aS.out) aM.out) aN.out)
  have eA:=hJ (BX.new iA.out bO.out)
  obtain ⟨iG,iH⟩:=eA.out.c2 0 1 rfl rfl
  have eB:=hJ (BX.new dZ.out aN.out)
  obtain ⟨iI,iJ⟩:=eB.out.c2 0 1 rfl rfl
  have bP:=hJ (bt (bt (bt (bt bS.out aV.out) aS.out) aM.out) aN.out)
  have bW:=hJ (PIo.new hZ.out bP.out)
  have bX:=hJ (PIo.new bV.out aN.out)
  go_wp2_with fail
  clear iG iH iI iJ
  refine (fcommon_any (psV a) (psV b) s21 s22 A21 A22 n21 c21 n22 c22 w66 bW.out bX.out (Nat.le_trans (plim bW.out (ps_lim a)) (by decide)) (Nat.le_trans (plim bX.out (ps_lim b)) (by decide))).mono ?_
  rintro e w71 ⟨s23,A23,n23,c23,rfl,hr23,hb⟩
  have bY:=hJ hb
  have eC:=hJ hr23
  clear hb hr23
  go_wp2_with fail
  refine (isone_any (((Nat.gcd (psV a).natAbs (psV b).natAbs:Nat):Int)) s23 A23 n23 c23 w71 eC.out (Nat.le_trans (plim eC.out bG.out) (by decide))).mono ?_
  rw [HG.out]
  rintro e w72 ⟨rfl,hb⟩
  have bZ:=hJ hb
  clear hb
  have aW:=hJ (bt bY.out bZ.out)
  have iK:=hJ (BX.new eA.out aW.out)
  obtain ⟨iL,iM⟩:=iK.out.c2 0 1 rfl rfl
  have iN:=hJ (BX.new eB.out aW.out)
  obtain ⟨iO,iP⟩:=iN.out.c2 0 1 rfl rfl
  have iQ:=hJ (PIo.new bW.out aW.out)
  have eD:=hJ (PIo.new bX.out aW.out)
  go_wp2_with fail
  clear iL iM iO iP
  refine (flowest_any (psV a) (psV b) s21 s22 A21 A22 n21 c21 n22 c22 w72 iQ.out eD.out (Nat.le_trans (plim eD.out (ps_lim b)) (by decide))).mono ?_
  rintro e w77 ⟨s24,A24,n24,c24,t24,B24,m24,d24,rfl,hr24,hb⟩
  have eE:=hJ hb
  have iR:=hJ hr24
  clear hb hr24
  have iS:=hJ (bt (bt (bt (bt (bt (bt (bt (bt (bt dW.out dX.out) bS.out) aV.out) aS.out) aM.out) aN.out) bY.out) bZ.out) eE.out)
  have aB:=hJ (BX.new hX.out iS.out)
  have iT:=aB.out.frozen 0
  have iU:=aB.out.cell 0 rfl
  have iV:=aB.out.frozen 1
  have iW:=aB.out.cell 1 rfl
  have iX:=aB.out.frozen 2
  have iY:=aB.out.cell 2 rfl
  have iZ:=aB.out.frozen 3
  have jA:=aB.out.cell 3 rfl
  obtain ⟨x78,eF⟩:=nmz (World.setCell (World.setCell (World.setCell (World.setCell w77 ⟨w.heap.size,0,none⟩ (.bool s24)) ⟨w.heap.size,1,none⟩ (.slice A24 n24 c24)) ⟨w.heap.size,2,none⟩ (.bool t24)) ⟨w.heap.size,3,none⟩ (.slice B24 m24 d24))
  have cA:=hJ (show sto w77 w.heap.size 0 [.bool s24,.slice A24 n24 c24,.bool t24,.slice B24 m24 d24]=x78 from eF)
  have jB:=hJ (show BX 27 x78 w.heap.size #[.bool s24,.slice A24 n24 c24,.bool t24,.slice B24 m24 d24] by rw [←cA.out]; exact BX.put aB.out _ _)
  have jC:=hJ (show Below w.heap.size w x78 by rw [←cA.out]; exact below_sto (bt (bt (bt (bt (bt (bt (bt (bt (bt (bt hW.out dW.out) dX.out) bS.out) aV.out) aS.out) aM.out) aN.out) bY.out) bZ.out) eE.out) hY.out _ _)
  have jD:=hJ (show PF x78 s24 A24 n24 c24 t24 B24 m24 d24 (psV a) (psV b) by rw [←cA.out]; exact PF.sto iR.out aB.out rfl _ _)
  go_wp2
  clear iT iU iV iW iX iY iZ jA eF
  exact bodyPost_ret (results_cell1 rfl _ _ _ _ _ _ _ rfl jB.out Tryz.underlying27 rfl F_size) rfl (by rw [HR.out.1,HR.out.2.1,HR.out.2.2]; exact ⟨s24,A24,n24,c24,t24,B24,m24,d24,rfl,jD.out,jC.out⟩)
set_option maxRecDepth 100000 in
set_option maxHeartbeats 1600000 in
theorem fparse_no (l:List UInt8) (w:World) (hs:l.length≤100000) (h:(47:UInt8) ∉ l) :
  Calls Tryz.prog 51 #[.string ⟨l.toArray⟩] w (RetFE (fqP l) (fqQ l) (fqC l) w):=by
 have HS:=hJ hs
 have HN:=hJ h
 clear hs h
 by_cases h1:psC l=0
 ·have HR:=hJ (show fqP l=psV l∧fqQ l=1∧fqC l=0 by obtain ⟨e1,e2,e3⟩:=fq_no HN.out; rw [e1,e2,e3,if_pos h1,if_pos h1]; exact ⟨rfl,rfl,rfl⟩)
  have aC:=hJ h1
  clear h1
  obtain ⟨x1,aD⟩:=nmz (w.alloc (.cells #[.bool false,.slice none 0 0,.bool false,.slice none 0 0] 27))
  have aW:=hJ (show Below w.heap.size w x1 by rw [←aD]; exact ((Below.refl _ _).alloc (Nat.le_refl _) _))
  have aX:=hJ (show BX 27 x1 w.heap.size #[.bool false,.slice none 0 0,.bool false,.slice none 0 0] by rw [←aD]; exact (BX.at rfl))
  have aY:=hJ (show w.heap.size≤w.heap.size by omega)
  go_enter Tryz.func51,Tryz.ntmps51
  go_wp2_with fail
  clear aD
  refine (cut_no_any l (Nat.le_trans HS.out (by decide)) HN.out x1).mono ?_
  rintro e w2 ⟨rfl,hb⟩
  have aL:=hJ hb
  clear hb
  go_wp2_with fail
  refine (pparse_any l w2 HS.out).mono ?_
  rw [aC.out]
  rintro e w3 ⟨s11,A11,n11,c11,rfl,hr11,hb⟩
  have aM:=hJ hb
  have aZ:=hJ hr11
  clear hb hr11
  obtain ⟨x4,aF⟩:=nmz (w3.alloc (.cells #[.bool s11,.slice A11 n11 c11] 25))
  have aG:=hJ (show Below w3.heap.size w3 x4 by rw [←aF]; exact ((Below.refl _ _).alloc (Nat.le_refl _) _))
  have bA:=hJ (show BX 25 x4 w3.heap.size #[.bool s11,.slice A11 n11 c11] by rw [←aF]; exact (BX.at rfl))
  obtain ⟨bB,bC⟩:=bA.out.c2 0 1 rfl rfl
  have aH:=hJ (bt (bt aL.out aM.out) aG.out)
  have aA:=hJ (BX.new aX.out aH.out)
  have bD:=aA.out.frozen 0
  have bE:=aA.out.cell 0 rfl
  have bF:=aA.out.frozen 1
  have bG:=aA.out.cell 1 rfl
  have bH:=aA.out.frozen 2
  have bJ:=aA.out.cell 2 rfl
  have bK:=aA.out.frozen 3
  have bL:=aA.out.cell 3 rfl
  obtain ⟨x7,aN⟩:=nmz (World.setCell (World.setCell (World.setCell (World.setCell x4 ⟨w.heap.size,0,none⟩ (.bool s11)) ⟨w.heap.size,1,none⟩ (.slice A11 n11 c11)) ⟨w.heap.size,2,none⟩ (.bool false)) ⟨w.heap.size,3,none⟩ (.slice none 0 0))
  have aI:=hJ (show sto x4 w.heap.size 0 [.bool s11,.slice A11 n11 c11,.bool false,.slice none 0 0]=x7 from aN)
  have bM:=hJ (show BX 27 x7 w.heap.size #[.bool s11,.slice A11 n11 c11,.bool false,.slice none 0 0] by rw [←aI.out]; exact BX.put aA.out _ _)
  have aJ:=hJ (show Below w.heap.size w x7 by rw [←aI.out]; exact below_sto (bt (bt (bt aW.out aL.out) aM.out) aG.out) aY.out _ _)
  have bN:=hJ (PIo.new aZ.out aG.out)
  have bO:=hJ (show PI x7 s11 A11 n11 c11 (psV l) by rw [←aI.out]; exact PIo.sto bN.out aA.out rfl _ _)
  go_wp2
  clear aF bB bC bD bE bF bG bH bJ bK bL aN
  exact bodyPost_ret (results_cell1 rfl _ _ _ _ _ _ _ rfl bM.out Tryz.underlying27 rfl F_size) rfl (by rw [HR.out.1,HR.out.2.1,HR.out.2.2]; exact ⟨s11,A11,n11,c11,false,none,0,0,rfl,⟨bO.out,PI.zero _⟩,aJ.out⟩)
 ·have HR:=hJ (show fqP l=0∧fqQ l=1∧fqC l=2 by obtain ⟨e1,e2,e3⟩:=fq_no HN.out; rw [e1,e2,e3,if_neg h1,if_neg h1]; exact ⟨rfl,rfl,rfl⟩)
  obtain ⟨ca,hca⟩:=nmz (psC l)
  have aC:=hJ hca
  rw [hca] at h1
  clear hca
  obtain ⟨x8,aK⟩:=nmz (w.alloc (.cells #[.bool false,.slice none 0 0,.bool false,.slice none 0 0] 27))
  have bP:=hJ (show Below w.heap.size w x8 by rw [←aK]; exact ((Below.refl _ _).alloc (Nat.le_refl _) _))
  have bQ:=hJ (show BX 27 x8 w.heap.size #[.bool false,.slice none 0 0,.bool false,.slice none 0 0] by rw [←aK]; exact (BX.at rfl))
  have bR:=hJ (show w.heap.size≤w.heap.size by omega)
  go_enter Tryz.func51,Tryz.ntmps51
  go_wp2_with fail
  clear aK
  refine (cut_no_any l (Nat.le_trans HS.out (by decide)) HN.out x8).mono ?_
  rintro e w9 ⟨rfl,hb⟩
  have aO:=hJ hb
  clear hb
  go_wp2_with fail
  refine (pparse_any l w9 HS.out).mono ?_
  rw [aC.out]
  rintro e w10 ⟨s12,A12,n12,c12,rfl,hr12,hb⟩
  have aR:=hJ hb
  clear hb hr12
  obtain ⟨x11,aS⟩:=nmz (w10.alloc (.cells #[.bool s12,.slice A12 n12 c12] 25))
  have aT:=hJ (show Below w10.heap.size w10 x11 by rw [←aS]; exact ((Below.refl _ _).alloc (Nat.le_refl _) _))
  have aH:=hJ (bt (bt aO.out aR.out) aT.out)
  have aB:=hJ (BX.new bQ.out aH.out)
  have bS:=aB.out.frozen 0
  have bT:=aB.out.cell 0 rfl
  have bU:=aB.out.frozen 1
  have bV:=aB.out.cell 1 rfl
  have bW:=aB.out.frozen 2
  have bX:=aB.out.cell 2 rfl
  have bY:=aB.out.frozen 3
  have bZ:=aB.out.cell 3 rfl
  obtain ⟨x12,aU⟩:=nmz (World.setCell (World.setCell (World.setCell (World.setCell x11 ⟨w.heap.size,0,none⟩ (.bool false)) ⟨w.heap.size,1,none⟩ (.slice none 0 0)) ⟨w.heap.size,2,none⟩ (.bool false)) ⟨w.heap.size,3,none⟩ (.slice none 0 0))
  have aV:=hJ (show sto x11 w.heap.size 0 [.bool false,.slice none 0 0,.bool false,.slice none 0 0]=x12 from aU)
  have cA:=hJ (show BX 27 x12 w.heap.size #[.bool false,.slice none 0 0,.bool false,.slice none 0 0] by rw [←aV.out]; exact BX.put aB.out _ _)
  have aJ:=hJ (show Below w.heap.size w x12 by rw [←aV.out]; exact below_sto (bt (bt (bt bP.out aO.out) aR.out) aT.out) bR.out _ _)
  go_wp2
  clear aS bS bT bU bV bW bX bY bZ aU
  exact bodyPost_ret (results_cell1 rfl _ _ _ _ _ _ _ rfl cA.out Tryz.underlying27 rfl F_size) rfl (by rw [HR.out.1,HR.out.2.1,HR.out.2.2]; exact ⟨false,none,0,0,false,none,0,0,rfl,pf_zero _,aJ.out⟩)
theorem fparse_any (l:List UInt8) (w:World) (hs:l.length≤100000) :
  Calls Tryz.prog 51 #[.string ⟨l.toArray⟩] w (RetFE (fqP l) (fqQ l) (fqC l) w):=by
 rcases slash_cases l with h | ⟨a,b,rfl,h⟩
 ·exact fparse_no l w hs h
 ·exact fparse_yes a b w hs h
end Go.Proofs.YtbgfmegepekapaaGreat
