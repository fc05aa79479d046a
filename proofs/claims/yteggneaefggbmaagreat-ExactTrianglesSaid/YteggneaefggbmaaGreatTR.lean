/- Contracts: triangles. Conditions: as each statement has them. -/
import Derived.Test.YteggneaefggbmaaGreatEZ
import Derived.Test.YteggneaefggbmaaGreatBT
import Derived.Deep.WholeRow
import Derived.Laws.Tables
namespace Go.Proofs.YteggneaefggbmaaGreat
set_option maxRecDepth 100000
set_option maxHeartbeats 12800000
open Go.RowKit
attribute [local go_sem ↓] Go.wp_at_zero Go.wp_at_succ
set_option linter.unusedVariables false
set_option linter.unusedSimpArgs false
theorem mk_low'9 (x d:Int) (hd:d≠0):Low (mkP x d) (mkQ x d)∧mkP x d*d=x*mkQ x d:=by
 rcases Int.lt_or_gt_of_ne hd with hn | hp
 ·obtain ⟨g,a,b,hg,e,ha,hb,hc⟩:=gcd_parts x d hd
  have hD:mkD x d = -g:=by unfold mkD; rw [if_pos hn,e]
  have hP:mkP x d = -a:=by unfold mkP; rw [if_neg hd,hD,Int.ediv_neg,ha,Int.mul_ediv_cancel_left _ (by omega)]
  have hQ:mkQ x d = -b:=by unfold mkQ; rw [if_neg hd,hD,Int.ediv_neg,hb,Int.mul_ediv_cancel_left _ (by omega)]
  rw [hP,hQ]
  refine ⟨⟨?_,by rw [Int.natAbs_neg,Int.natAbs_neg]; exact hc⟩,?_⟩
  ·exact Int.pos_of_mul_pos_right (show 0 < g * -b by rw [Int.mul_neg,←hb]; omega) hg
  rw [ha,hb,Int.mul_neg,Int.neg_mul,Int.mul_left_comm,Int.mul_assoc]
 ·exact mk_low x d hp
theorem low_mk'9 {p q x d:Int} (h:Low p q) (hd:d≠0) (e:p*d=x*q):p=mkP x d∧q=mkQ x d:=by
 obtain ⟨hl,he⟩:=mk_low'9 x d hd
 refine low_eq h hl ?_
 refine Int.eq_of_mul_eq_mul_right hd ?_
 rw [Int.mul_right_comm,e,Int.mul_right_comm,←he,Int.mul_right_comm]
theorem dv_low9 {p q r s:Int} (h:Low p q) (_:Low r s) (hr:r≠0) (hk:muK p q (mkP s r) (mkQ s r)):Low (dvP p q r s) (dvQ p q r s)∧dvP p q r s*(q*r)=p*s*dvQ p q r s:=by
 obtain ⟨hl,he⟩:=mk_low'9 s r hr
 obtain ⟨h1,h2⟩:=mu_low h hl hk
 have e1:dvP p q r s=muP p q (mkP s r) (mkQ s r):=if_neg hr
 have e2:dvQ p q r s=muQ p q (mkP s r) (mkQ s r):=if_neg hr
 rw [e1,e2]
 refine ⟨h1,?_⟩
 obtain ⟨N,hN⟩:∃ N,muP p q (mkP s r) (mkQ s r)=N:=⟨_,rfl⟩
 obtain ⟨D,hD⟩:∃ D,muQ p q (mkP s r) (mkQ s r)=D:=⟨_,rfl⟩
 rw [hN,hD] at h2 ⊢
 have hq:mkQ s r≠0:=by have:=hl.1; omega
 refine Int.eq_of_mul_eq_mul_right hq ?_
 calc N*(q*r)*mkQ s r=N*(q*mkQ s r)*r:=by ac_rfl
  _=p*(mkP s r*r)*D:=by rw [h2]; ac_rfl
  _=p*s*D*mkQ s r:=by rw [he]; ac_rfl
theorem ad_small9 {p q r s:Int} {k:Nat} (hk:4*k*k < 18446744073709551616) (h18:∀ x:Int,x.natAbs < 18446744073709551616→x.natAbs < lim) (_:0 < q) (hs0:0 < s) (hp:p.natAbs≤k) (hq:q.natAbs≤k) (hr:r.natAbs≤k) (hs:s.natAbs≤k):adK p q r s:=by
 obtain ⟨g,a,b,hg,e,ha,hb,_⟩:=gcd_parts q s (by omega)
 have hG:adG q s=g:=e
 have qa:q / g=a:=by rw [ha,Int.mul_ediv_cancel_left _ (by omega)]
 have sb:s / g=b:=by rw [hb,Int.mul_ediv_cancel_left _ (by omega)]
 have ka:a.natAbs≤k:=by rw [←qa]; exact Nat.le_trans (ediv_abs hg ⟨a,ha⟩) hq
 have kb:b.natAbs≤k:=by rw [←sb]; exact Nat.le_trans (ediv_abs hg ⟨b,hb⟩) hs
 have m1:(p*b).natAbs≤k*k:=by rw [Int.natAbs_mul]; exact Nat.mul_le_mul hp kb
 have m2:(r*a).natAbs≤k*k:=by rw [Int.natAbs_mul]; exact Nat.mul_le_mul hr ka
 have m3:(a*s).natAbs≤k*k:=by rw [Int.natAbs_mul]; exact Nat.mul_le_mul ka hs
 have e4:4*k*k=4*(k*k):=Nat.mul_assoc _ _ _
 unfold adK adN adD
 rw [hG,qa,sb]
 exact ⟨h18 _ (by omega),h18 _ (by omega),h18 _ (by omega),h18 _ (by omega)⟩
theorem ad_bound9 {p q r s:Int} {k:Nat} (hk:adK p q r s) (_:0 < q) (hs0:0 < s) (hp:p.natAbs≤k) (hq:q.natAbs≤k) (hr:r.natAbs≤k) (hs:s.natAbs≤k):(adP p q r s).natAbs≤2*(k*k)∧(adQ p q r s).natAbs≤k*k:=by
 obtain ⟨g,a,b,hg,e,ha,hb,_⟩:=gcd_parts q s (by omega)
 have hG:adG q s=g:=e
 have qa:q / g=a:=by rw [ha,Int.mul_ediv_cancel_left _ (by omega)]
 have sb:s / g=b:=by rw [hb,Int.mul_ediv_cancel_left _ (by omega)]
 have ka:a.natAbs≤k:=by rw [←qa]; exact Nat.le_trans (ediv_abs hg ⟨a,ha⟩) hq
 have kb:b.natAbs≤k:=by rw [←sb]; exact Nat.le_trans (ediv_abs hg ⟨b,hb⟩) hs
 have m1:(p*b).natAbs≤k*k:=by rw [Int.natAbs_mul]; exact Nat.mul_le_mul hp kb
 have m2:(r*a).natAbs≤k*k:=by rw [Int.natAbs_mul]; exact Nat.mul_le_mul hr ka
 have m3:(a*s).natAbs≤k*k:=by rw [Int.natAbs_mul]; exact Nat.mul_le_mul ka hs
 have hN:adN p q r s=p*b+r*a:=by unfold adN; rw [hG,qa,sb]
 have hD:adD q s=a*s:=by unfold adD; rw [hG,qa]
 obtain ⟨h,n',g',h0,he,hn',hg',_⟩:=gcd_parts (p*b+r*a) g (by omega)
 have hH:adH p q r s=h:=by unfold adH; rw [hN,hG]; exact he
 have eD:a*s=h*(a*(g'*b)):=by
  conv=>lhs; rw [hb,hg']
  ac_rfl
 unfold adP adQ
 rw [if_pos hk,if_pos hk,hH,hN,hD]
 exact ⟨Nat.le_trans (ediv_abs h0 ⟨n',hn'⟩) (by omega),Nat.le_trans (ediv_abs h0 ⟨_,eD⟩) m3⟩
theorem md_low9 {p q r s:Int} (h18:∀ x:Int,x.natAbs < 18446744073709551616→x.natAbs < lim) (h:Low p q) (h':Low r s) (hp:p.natAbs≤60000) (hq:q.natAbs≤60000) (hr:r.natAbs≤60000) (hs:s.natAbs≤60000):mdC p q r s=0∧mdP p q r s=mkP (p*s+r*q) (2*(q*s))∧mdQ p q r s=mkQ (p*s+r*q) (2*(q*s)):=by
 have hK:=ad_small9 (k:=60000) (by decide) h18 h.1 h'.1 hp hq hr hs
 obtain ⟨h1,h2⟩:=ad_low h h' hK
 obtain ⟨b1,b2⟩:=ad_bound9 hK h.1 h'.1 hp hq hr hs
 obtain ⟨P,hP⟩:∃ P,adP p q r s=P:=⟨_,rfl⟩
 obtain ⟨Q,hQ⟩:∃ Q,adQ p q r s=Q:=⟨_,rfl⟩
 have hC:adC p q r s=0:=if_pos hK
 rw [hP,hQ] at h1 h2
 rw [hP] at b1
 rw [hQ] at b2
 have l2:Low 2 1:=low_one 2
 have m1:mkP 1 2=1∧mkQ 1 2=2:=⟨rfl,rfl⟩
 have hk:muK P Q (mkP 1 2) (mkQ 1 2):=by
  rw [m1.1,m1.2]
  unfold muK muN muD
  have g1:(0:Int) < muA P 2:=by unfold muA; have:=Nat.gcd_pos_of_pos_right P.natAbs (show 0 < (2:Int).natAbs by decide); omega
  have g2:(0:Int) < muA 1 Q:=by unfold muA; have:=Nat.gcd_pos_of_pos_left Q.natAbs (show 0 < (1:Int).natAbs by decide); omega
  have d1:(P / muA P 2).natAbs≤P.natAbs:=ediv_abs g1 (Int.ofNat_dvd_left.2 (Nat.gcd_dvd_left _ _))
  have d2:(1 / muA 1 Q:Int).natAbs≤(1:Int).natAbs:=ediv_abs g2 (Int.ofNat_dvd_left.2 (Nat.gcd_dvd_left _ _))
  have d3:(Q / muA 1 Q).natAbs≤Q.natAbs:=ediv_abs g2 (Int.ofNat_dvd_left.2 (Nat.gcd_dvd_right _ _))
  have d4:(2 / muA P 2:Int).natAbs≤(2:Int).natAbs:=ediv_abs g1 (Int.ofNat_dvd_left.2 (Nat.gcd_dvd_right _ _))
  have t1:(P / muA P 2*(1 / muA 1 Q)).natAbs≤P.natAbs*1:=by rw [Int.natAbs_mul]; exact Nat.mul_le_mul d1 d2
  have t2:(Q / muA 1 Q*(2 / muA P 2)).natAbs≤Q.natAbs*2:=by rw [Int.natAbs_mul]; exact Nat.mul_le_mul d3 d4
  exact ⟨h18 _ (by omega),h18 _ (by omega)⟩
 obtain ⟨h3,h4⟩:=dv_low9 h1 l2 (by decide) hk
 have e1:mdP p q r s=dvP P Q 2 1:=by unfold mdP; rw [if_pos hC,hP,hQ]
 have e2:mdQ p q r s=dvQ P Q 2 1:=by unfold mdQ; rw [if_pos hC,hP,hQ]
 have e3:mdC p q r s=0:=by
  unfold mdC
  rw [if_pos hC,hP,hQ]
  unfold dvC
  rw [if_neg (by decide)]
  exact if_pos hk
 rw [e1,e2]
 refine ⟨e3,low_mk'9 h3 ?_ ?_⟩
 ·have:=Int.mul_pos h.1 h'.1; omega
 ·have hQ0:Q≠0:=by have:=h1.1; omega
  refine Int.eq_of_mul_eq_mul_right hQ0 ?_
  obtain ⟨N,hN⟩:=nmz (dvP P Q 2 1)
  obtain ⟨D,hD⟩:=nmz (dvQ P Q 2 1)
  rw [hN,hD] at h4
  rw [hN,hD]
  clear hN hD h3 hk hC hK
  calc N*(2*(q*s))*Q=N*(Q*2)*(q*s):=by ac_rfl
   _=P*(q*s)*D:=by rw [h4,Int.mul_one]; exact Int.mul_right_comm _ _ _
   _=(p*s+r*q)*D*Q:=by rw [h2]; exact Int.mul_right_comm _ _ _
/-- The sides of a point and of a triangle. -/
def trS (ax ay da bx by' db cx cy dc:Int):Int:=cmpI (arN ax ay da bx by' db cx cy dc) 0
/-- Where a point lies to a triangle, by its sides and borders. -/
def trW (s s1 s2 s3:Int) (b1 b2 b3:Bool):Int:=if (decide (0 < s1*s) && decide (0 < s2*s) && decide (0 < s3*s))=true then 1 else if (b1 || b2 || b3)=true then 0 else -1
def trV (ax ay da bx by' db cx cy dc px py dp:Int):Int:=trW (trS ax ay da bx by' db cx cy dc) (trS ax ay da bx by' db px py dp) (trS bx by' db cx cy dc px py dp) (trS cx cy dc ax ay da px py dp) (btV ax ay da bx by' db px py dp) (btV bx by' db cx cy dc px py dp) (btV cx cy dc ax ay da px py dp)
theorem trS_three (ax ay da bx by' db cx cy dc:Int):trS ax ay da bx by' db cx cy dc = -1∨trS ax ay da bx by' db cx cy dc=0∨trS ax ay da bx by' db cx cy dc=1:=cm_three _ _
theorem bt_side {ax ay da bx by' db px py dp:Int} (h:trS ax ay da bx by' db px py dp≠0):btV ax ay da bx by' db px py dp=false:=by
 unfold btV
 unfold trS at h
 rw [decide_eq_false h,Bool.false_and]
/-- What the reference returns. -/
def trR (s s1 s2 s3:Int) (b1 b2 b3:Bool):Int:=if (b1 || b2 || b3)=true then 0 else if s=0 then -1 else if (decide (s1=s) && decide (s2=s) && decide (s3=s))=true then 1 else -1
theorem trW_trR {s s1 s2 s3:Int} {b1 b2 b3:Bool} (h:s = -1∨s=0∨s=1) (h1:s1 = -1∨s1=0∨s1=1) (h2:s2 = -1∨s2=0∨s2=1) (h3:s3 = -1∨s3=0∨s3=1) (g1:s1≠0→b1=false) (g2:s2≠0→b2=false) (g3:s3≠0→b3=false):trR s s1 s2 s3 b1 b2 b3=trW s s1 s2 s3 b1 b2 b3:=by
 unfold trR trW
 rcases h with rfl | rfl | rfl <;> rcases h1 with rfl | rfl | rfl <;> rcases h2 with rfl | rfl | rfl <;> rcases h3 with rfl | rfl | rfl <;> cases b1 <;> cases b2 <;> cases b3 <;> first | rfl | (exfalso; revert g1 g2 g3; decide)
theorem trV_ref (ax ay da bx by' db cx cy dc px py dp:Int):trR (trS ax ay da bx by' db cx cy dc) (trS ax ay da bx by' db px py dp) (trS bx by' db cx cy dc px py dp) (trS cx cy dc ax ay da px py dp) (btV ax ay da bx by' db px py dp) (btV bx by' db cx cy dc px py dp) (btV cx cy dc ax ay da px py dp)=trV ax ay da bx by' db cx cy dc px py dp :=
 trW_trR (trS_three ..) (trS_three ..) (trS_three ..) (trS_three ..) bt_side bt_side bt_side
theorem trW_cyc (s s1 s2 s3:Int) (b1 b2 b3:Bool):trW s s2 s3 s1 b2 b3 b1=trW s s1 s2 s3 b1 b2 b3:=by
 unfold trW
 rw [show (decide (0 < s2*s) && decide (0 < s3*s) && decide (0 < s1*s))=(decide (0 < s1*s) && decide (0 < s2*s) && decide (0 < s3*s)) by cases decide (0 < s1*s) <;> cases decide (0 < s2*s) <;> cases decide (0 < s3*s) <;> rfl,show (b2 || b3 || b1)=(b1 || b2 || b3) by cases b1 <;> cases b2 <;> cases b3 <;> rfl]
theorem trW_swap (s s1 s2 s3:Int) (b1 b2 b3:Bool):trW (-s) (-s1) (-s3) (-s2) b1 b3 b2=trW s s1 s2 s3 b1 b2 b3:=by
 unfold trW
 rw [Int.neg_mul_neg,Int.neg_mul_neg,Int.neg_mul_neg,show (decide (0 < s1*s) && decide (0 < s3*s) && decide (0 < s2*s))=(decide (0 < s1*s) && decide (0 < s2*s) && decide (0 < s3*s)) by cases decide (0 < s1*s) <;> cases decide (0 < s2*s) <;> cases decide (0 < s3*s) <;> rfl,show (b1 || b3 || b2)=(b1 || b2 || b3) by cases b1 <;> cases b2 <;> cases b3 <;> rfl]
theorem cm_flip (a b:Int):cmpI b a = -cmpI a b:=by unfold cmpI; split <;> split <;> (try split) <;> omega
theorem trS_cyc {ax ay da bx by' db cx cy dc:Int} (ha:0 < da) (hb:0 < db):trS bx by' db cx cy dc ax ay da=trS ax ay da bx by' db cx cy dc:=by
 unfold trS
 refine cm_diff (m:=da) (n:=db) ha hb ?_
 unfold arN
 grind
theorem trS_swap {ax ay da bx by' db cx cy dc:Int} (ha:0 < da) (hb:0 < db):trS bx by' db ax ay da cx cy dc = -trS ax ay da bx by' db cx cy dc:=by
 unfold trS
 rw [←cm_flip]
 refine cm_diff (m:=da) (n:=db) ha hb ?_
 unfold arN
 grind
theorem inC_swap (a da b db p dp:Int):inC b db a da p dp=inC a da b db p dp:=by
 unfold inC
 rw [cm_flip (p*db) (b*dp),cm_flip (a*dp) (p*da),Int.neg_mul_neg,Int.mul_comm]
theorem btV_swap {ax ay da bx by' db px py dp:Int} (ha:0 < da) (hb:0 < db):btV bx by' db ax ay da px py dp=btV ax ay da bx by' db px py dp:=by
 unfold btV inX
 rw [inC_swap ax,inC_swap ay,show cmpI (arN bx by' db ax ay da px py dp) 0 = -cmpI (arN ax ay da bx by' db px py dp) 0 from trS_swap ha hb]
 congr 1
 rcases cm_three (arN ax ay da bx by' db px py dp) 0 with h | h | h <;> rw [h] <;> rfl
theorem trV_cyc {ax ay da bx by' db cx cy dc:Int} (ha:0 < da) (hb:0 < db) (px py dp:Int):trV bx by' db cx cy dc ax ay da px py dp=trV ax ay da bx by' db cx cy dc px py dp:=by
 unfold trV
 rw [trS_cyc ha hb,trW_cyc]
theorem trV_swap {ax ay da bx by' db cx cy dc:Int} (ha:0 < da) (hb:0 < db) (hc:0 < dc) (px py dp:Int):trV bx by' db ax ay da cx cy dc px py dp=trV ax ay da bx by' db cx cy dc px py dp:=by
 unfold trV
 rw [trS_swap (cx:=cx) (cy:=cy) (dc:=dc) ha hb,trS_swap (cx:=px) (cy:=py) (dc:=dp) ha hb,btV_swap (px:=px) (py:=py) (dp:=dp) ha hb,trS_swap (ax:=cx) (ay:=cy) (da:=dc) (cx:=px) (cy:=py) (dc:=dp) hc ha,trS_swap (cx:=px) (cy:=py) (dc:=dp) hb hc,btV_swap (px:=px) (py:=py) (dp:=dp) hc ha,btV_swap (px:=px) (py:=py) (dp:=dp) hb hc,trW_swap]
theorem trW_on {s s2 s3:Int} {b2 b3:Bool}:trW s 0 s2 s3 true b2 b3=0:=by
 unfold trW
 rw [Int.zero_mul,show decide ((0:Int) < 0)=false from rfl,Bool.false_and,Bool.false_and,Bool.true_or,Bool.true_or]
 rfl
theorem trV_on {ax ay da bx by' db px py dp:Int} (cx cy dc:Int) (h:btV ax ay da bx by' db px py dp=true):trV ax ay da bx by' db cx cy dc px py dp=0:=by
 have h0:trS ax ay da bx by' db px py dp=0:=by
  rcases Int.decEq (trS ax ay da bx by' db px py dp) 0 with g | g
  ·rw [bt_side g] at h; cases h
  exact g
 unfold trV
 rw [h,h0,trW_on]
theorem bt_end (ax ay da bx by' db:Int):btV ax ay da bx by' db ax ay da=true:=by
 have h:arN ax ay da bx by' db ax ay da=0:=by unfold arN; grind
 have z:∀ x:Int,cmpI x x=0:=fun x=>by unfold cmpI; rw [if_neg (by omega),if_neg (by omega)]
 unfold btV inX inC
 rw [h,z,z,z,Int.zero_mul,Int.zero_mul]
 rfl
theorem bt_mid {ax ay da bx by' db:Int} (ha:0 < da) (hb:0 < db):btV ax ay da bx by' db (ax*db+bx*da) (ay*db+by'*da) (2*(da*db))=true:=by
 have h:arN ax ay da bx by' db (ax*db+bx*da) (ay*db+by'*da) (2*(da*db))=0:=by unfold arN; grind
 have k1:∀ a b:Int,cmpI (a*(2*(da*db))) ((a*db+b*da)*da)=cmpI (a*db) (b*da):=fun a b=>cm_diff (m:=1) (n:=da) (by omega) ha (by clear h; grind)
 have k2:∀ a b:Int,cmpI ((a*db+b*da)*db) (b*(2*(da*db)))=cmpI (a*db) (b*da):=fun a b=>cm_diff (m:=1) (n:=db) (by omega) hb (by clear h k1; grind)
 unfold btV inX inC
 rw [h,k1,k1,k2,k2,sq_in _ (cm_three _ _),sq_in _ (cm_three _ _)]
 rfl
/-- The middle of two coordinates. -/
theorem md_pt9 {X D X' D':Int} (hD:0 < D) (hD':0 < D') (h1:X.natAbs≤19200) (h2:D.natAbs≤576) (h3:X'.natAbs≤19200) (h4:D'.natAbs≤576):mdC (mkP X D) (mkQ X D) (mkP X' D') (mkQ X' D')=0∧mdP (mkP X D) (mkQ X D) (mkP X' D') (mkQ X' D')=mkP (X*D'+X'*D) (2*(D*D'))∧mdQ (mkP X D) (mkQ X D) (mkP X' D') (mkQ X' D')=mkQ (X*D'+X'*D) (2*(D*D')):=by
 obtain ⟨l1,e1⟩:=mk_low X D hD
 obtain ⟨l2,e2⟩:=mk_low X' D' hD'
 have b1:=mk_bound (x:=X) hD
 have b2:=mk_bound (x:=X') hD'
 obtain ⟨m1,m2,m3⟩:=md_low9 h18 l1 l2 (by omega) (by omega) (by omega) (by omega)
 obtain ⟨p,hp⟩:∃ p,mkP X D=p:=⟨_,rfl⟩
 obtain ⟨q,hq⟩:∃ p,mkQ X D=p:=⟨_,rfl⟩
 obtain ⟨r,hr⟩:∃ p,mkP X' D'=p:=⟨_,rfl⟩
 obtain ⟨s,hs⟩:∃ p,mkQ X' D'=p:=⟨_,rfl⟩
 rw [hp,hq] at l1 e1
 rw [hr,hs] at l2 e2
 rw [hp,hq,hr,hs] at m1 m2 m3
 rw [hp,hq,hr,hs]
 refine ⟨m1,?_⟩
 rw [m2,m3]
 have hqs:0 < q*s:=Int.mul_pos l1.1 l2.1
 obtain ⟨l3,e3⟩:=mk_low (p*s+r*q) (2*(q*s)) (by omega)
 have hdd:0 < D*D':=Int.mul_pos hD hD'
 obtain ⟨P,hP⟩:=nmz (mkP (p*s+r*q) (2*(q*s)))
 obtain ⟨Q,hQ⟩:=nmz (mkQ (p*s+r*q) (2*(q*s)))
 rw [hP,hQ] at l3 e3
 rw [hP,hQ]
 refine low_mk l3 (by omega) ?_
 refine Int.eq_of_mul_eq_mul_right (show q*s≠0 by omega) ?_
 clear hP hQ hp hq hr hs b1 b2 m1 m2 m3 h1 h2 h3 h4 l1 l2 l3
 have k1:(p*s+r*q)*(D*D')=(X*D'+X'*D)*(q*s):=by
  rw [Int.add_mul,Int.add_mul]
  have a1:p*s*(D*D')=X*D'*(q*s):=by
   calc p*s*(D*D')=p*D*(s*D'):=by ac_rfl
    _=X*D'*(q*s):=by rw [e1]; ac_rfl
  have a2:r*q*(D*D')=X'*D*(q*s):=by
   calc r*q*(D*D')=r*D'*(q*D):=by ac_rfl
    _=X'*D*(q*s):=by rw [e2]; ac_rfl
  rw [a1,a2]
 calc P*(2*(D*D'))*(q*s)=P*(2*(q*s))*(D*D'):=by ac_rfl
  _=(p*s+r*q)*(D*D')*Q:=by rw [e3]; ac_rfl
  _=(X*D'+X'*D)*Q*(q*s):=by rw [k1]; ac_rfl
theorem PFv.sto {w:World} {a b c d:Value} {p q:Int} {t:TypeId} {g:Nat} {cs:Array Value} (h:PFv w a b c d p q) (hp:BX t w g cs) (hn:noI .u32 cs=true) (o:Nat) (vs:List Value):PFv (sto w g o vs) a b c d p q:=by
 obtain ⟨s,A,n,c',t,B,m,d',e0,e1,e2,e3,hf⟩:=h
 exact ⟨s,A,n,c',t,B,m,d',e0,e1,e2,e3,PF.sto hf hp hn o vs⟩
theorem PFv.one {w:World} {a b c d:Value} {p q:Int} (h:PFv w a b c d p q):a.oneCell'=true∧b.oneCell'=true∧c.oneCell'=true∧d.oneCell'=true:=by
 obtain ⟨s,A,n,c',t,B,m,d',rfl,rfl,rfl,rfl,hf⟩:=h
 exact ⟨rfl,rfl,rfl,rfl⟩
theorem PTq.sto {w:World} {a b c d a' b' c' d':Value} {x y z:Int} {t:TypeId} {g:Nat} {cs:Array Value} (h:PTq w a b c d a' b' c' d' x y z) (hp:BX t w g cs) (hn:noI .u32 cs=true) (o:Nat) (vs:List Value):PTq (sto w g o vs) a b c d a' b' c' d' x y z:=⟨h.1.sto hp hn o vs,h.2.sto hp hn o vs⟩
theorem tx3_0 {v0 v1 v2 v3 v4 v5 v6 v7 v8 v9 v10 v11 v12 v13 v14 v15 v16 v17 v18 v19 v20 v21 v22 v23 v24 v25 v26 v27 v28 v29 v30 v31 v32 v33 v34 v35 v36 v37 v38 v39 v40 v41 v42 v43 v44 v45 v46 v47:Value} (wx:World):(Instr.index 179 (.agg #[v0,v1,v2,v3,v4,v5,v6,v7,v8,v9,v10,v11,v12,v13,v14,v15,v16,v17,v18,v19,v20,v21,v22,v23,v24,v25,v26,v27,v28,v29,v30,v31,v32,v33,v34,v35,v36,v37,v38,v39,v40,v41,v42,v43,v44,v45,v46,v47]) (.int .i64 0)).run Tryz.prog wx=.ok (.agg #[v0,v1,v2,v3,v4,v5,v6,v7,v8,v9,v10,v11,v12,v13,v14,v15]) wx:=by
 first
  | kernel_rfl
  | simp [Instr.index,run_underlying Tryz.underlying179,asIntOf,go_sem]
theorem tx3_1 {v0 v1 v2 v3 v4 v5 v6 v7 v8 v9 v10 v11 v12 v13 v14 v15 v16 v17 v18 v19 v20 v21 v22 v23 v24 v25 v26 v27 v28 v29 v30 v31 v32 v33 v34 v35 v36 v37 v38 v39 v40 v41 v42 v43 v44 v45 v46 v47:Value} (wx:World):(Instr.index 179 (.agg #[v0,v1,v2,v3,v4,v5,v6,v7,v8,v9,v10,v11,v12,v13,v14,v15,v16,v17,v18,v19,v20,v21,v22,v23,v24,v25,v26,v27,v28,v29,v30,v31,v32,v33,v34,v35,v36,v37,v38,v39,v40,v41,v42,v43,v44,v45,v46,v47]) (.int .i64 1)).run Tryz.prog wx=.ok (.agg #[v16,v17,v18,v19,v20,v21,v22,v23,v24,v25,v26,v27,v28,v29,v30,v31]) wx:=by
 first
  | kernel_rfl
  | simp [Instr.index,run_underlying Tryz.underlying179,asIntOf,go_sem]
theorem tx3_2 {v0 v1 v2 v3 v4 v5 v6 v7 v8 v9 v10 v11 v12 v13 v14 v15 v16 v17 v18 v19 v20 v21 v22 v23 v24 v25 v26 v27 v28 v29 v30 v31 v32 v33 v34 v35 v36 v37 v38 v39 v40 v41 v42 v43 v44 v45 v46 v47:Value} (wx:World):(Instr.index 179 (.agg #[v0,v1,v2,v3,v4,v5,v6,v7,v8,v9,v10,v11,v12,v13,v14,v15,v16,v17,v18,v19,v20,v21,v22,v23,v24,v25,v26,v27,v28,v29,v30,v31,v32,v33,v34,v35,v36,v37,v38,v39,v40,v41,v42,v43,v44,v45,v46,v47]) (.int .i64 2)).run Tryz.prog wx=.ok (.agg #[v32,v33,v34,v35,v36,v37,v38,v39,v40,v41,v42,v43,v44,v45,v46,v47]) wx:=by
 first
  | kernel_rfl
  | simp [Instr.index,run_underlying Tryz.underlying179,asIntOf,go_sem]
theorem inboxv_any {ax ay bx by' cx cy da db dc:Int} {a0 a1 a2 a3 a4 a5 a6 a7:Value} {b0 b1 b2 b3 b4 b5 b6 b7:Value} {c0 c1 c2 c3 c4 c5 c6 c7:Value} (w:World) (ha:PTq w a0 a1 a2 a3 a4 a5 a6 a7 ax ay da) (hb:PTq w b0 b1 b2 b3 b4 b5 b6 b7 bx by' db) (hc:PTq w c0 c1 c2 c3 c4 c5 c6 c7 cx cy dc) (za:Pz ax ay da) (zb:Pz bx by' db) (zc:Pz cx cy dc) :
  Calls Tryz.prog 119 #[.agg #[a0,a1,a2,a3,a4,a5,a6,a7],.agg #[b0,b1,b2,b3,b4,b5,b6,b7],.agg #[c0,c1,c2,c3,c4,c5,c6,c7]] w fun e w'=>e=.returned (.bool (inX ax ay da bx by' db cx cy dc))∧Below w.heap.size w w':=by
 obtain ⟨⟨sa,Aa,na,ca,ta,Ba,ma,ka,rfl,rfl,rfl,rfl,pa⟩,⟨sa',Aa',na',ca',ta',Ba',ma',ka',rfl,rfl,rfl,rfl,pa'⟩⟩:=ha
 obtain ⟨⟨sb,Ab,nb,cb,tb,Bb,mb,kb,rfl,rfl,rfl,rfl,pb⟩,⟨sb',Ab',nb',cb',tb',Bb',mb',kb',rfl,rfl,rfl,rfl,pb'⟩⟩:=hb
 obtain ⟨⟨sc,Ac,nc,cc,tc,Bc,mc,kc,rfl,rfl,rfl,rfl,pc⟩,⟨sc',Ac',nc',cc',tc',Bc',mc',kc',rfl,rfl,rfl,rfl,pc'⟩⟩:=hc
 rw [←bx_mk za.1.1 zb.1.1 zc.1.1]
 exact inbox_any (mkP ax da) (mkQ ax da) (mkP ay da) (mkQ ay da) (mkP bx db) (mkQ bx db) (mkP by' db) (mkQ by' db) (mkP cx dc) (mkQ cx dc) (mkP cy dc) (mkQ cy dc) sa Aa na ca ta Ba ma ka sa' Aa' na' ca' ta' Ba' ma' ka' sb Ab nb cb tb Bb mb kb sb' Ab' nb' cb' tb' Bb' mb' kb' sc Ac nc cc tc Bc mc kc sc' Ac' nc' cc' tc' Bc' mc' kc' w pa pa' pb pb' pc pc' (vl_frY (pz_vl za).1) (vl_frY (pz_vl za).2) (vl_frY (pz_vl zb).1) (vl_frY (pz_vl zb).2) (vl_frY (pz_vl zc).1) (vl_frY (pz_vl zc).2)
theorem midv_any {ax ay da bx by' db:Int} {a0 a1 a2 a3 a4 a5 a6 a7:Value} {b0 b1 b2 b3 b4 b5 b6 b7:Value} (w:World) (ha:PTq w a0 a1 a2 a3 a4 a5 a6 a7 ax ay da) (hb:PTq w b0 b1 b2 b3 b4 b5 b6 b7 bx by' db) (za:Pq ax ay da) (zb:Pq bx by' db) :
  Calls Tryz.prog 51 #[.agg #[a0,a1,a2,a3,a4,a5,a6,a7],.agg #[b0,b1,b2,b3,b4,b5,b6,b7]] w fun e w'=>∃ (sm:Bool) (Am:Option Addr) (nm:Nat) (cm:Nat) (tm:Bool) (Bm:Option Addr) (mm:Nat) (dm:Nat) (smb:Bool) (Amb:Option Addr) (nmb:Nat) (cmb:Nat) (tmb:Bool) (Bmb:Option Addr) (mmb:Nat) (dmb:Nat),e=.returned (.tuple #[.agg #[.bool sm,.slice Am nm cm,.bool tm,.slice Bm mm dm,.bool smb,.slice Amb nmb cmb,.bool tmb,.slice Bmb mmb dmb],.int .i64 0])∧PTq w' (.bool sm) (.slice Am nm cm) (.bool tm) (.slice Bm mm dm) (.bool smb) (.slice Amb nmb cmb) (.bool tmb) (.slice Bmb mmb dmb) (ax*db+bx*da) (ay*db+by'*da) (2*(da*db))∧Below w.heap.size w w':=by
 obtain ⟨⟨sa,Aa,na,ca,ta,Ba,ma,ka,rfl,rfl,rfl,rfl,pa⟩,⟨sa',Aa',na',ca',ta',Ba',ma',ka',rfl,rfl,rfl,rfl,pa'⟩⟩:=ha
 obtain ⟨⟨sb,Ab,nb,cb,tb,Bb,mb,kb,rfl,rfl,rfl,rfl,pb⟩,⟨sb',Ab',nb',cb',tb',Bb',mb',kb',rfl,rfl,rfl,rfl,pb'⟩⟩:=hb
 have v1:=pz_vl (pq_pz za)
 have v2:=pz_vl (pq_pz zb)
 have g1:=md_pt9 (X:=ax) (X':=bx) za.1.1 zb.1.1 (by have:=za.2.1; omega) (by have:=za.1; omega) (by have:=zb.2.1; omega) (by have:=zb.1; omega)
 have g2:=md_pt9 (X:=ay) (X':=by') za.1.1 zb.1.1 (by have:=za.2.2; omega) (by have:=za.1; omega) (by have:=zb.2.2; omega) (by have:=zb.1; omega)
 have hK:meK (mkP ax da) (mkQ ax da) (mkP bx db) (mkQ bx db) (mkP ay da) (mkQ ay da) (mkP by' db) (mkQ by' db):=⟨g1.1,g2.1⟩
 have e1:meX (mkP ax da) (mkQ ax da) (mkP bx db) (mkQ bx db) (mkP ay da) (mkQ ay da) (mkP by' db) (mkQ by' db)=mkP (ax*db+bx*da) (2*(da*db)):=(if_pos hK).trans g1.2.1
 have e2:meXd (mkP ax da) (mkQ ax da) (mkP bx db) (mkQ bx db) (mkP ay da) (mkQ ay da) (mkP by' db) (mkQ by' db)=mkQ (ax*db+bx*da) (2*(da*db)):=(if_pos hK).trans g1.2.2
 have e3:meY (mkP ax da) (mkQ ax da) (mkP bx db) (mkQ bx db) (mkP ay da) (mkQ ay da) (mkP by' db) (mkQ by' db)=mkP (ay*db+by'*da) (2*(da*db)):=(if_pos hK).trans g2.2.1
 have e4:meYd (mkP ax da) (mkQ ax da) (mkP bx db) (mkQ bx db) (mkP ay da) (mkQ ay da) (mkP by' db) (mkQ by' db)=mkQ (ay*db+by'*da) (2*(da*db)):=(if_pos hK).trans g2.2.2
 have e5:meC (mkP ax da) (mkQ ax da) (mkP bx db) (mkQ bx db) (mkP ay da) (mkQ ay da) (mkP by' db) (mkQ by' db)=0:=(if_pos g1.1).trans g2.1
 refine (pmid_any (mkP ax da) (mkQ ax da) (mkP ay da) (mkQ ay da) (mkP bx db) (mkQ bx db) (mkP by' db) (mkQ by' db) sa Aa na ca ta Ba ma ka sa' Aa' na' ca' ta' Ba' ma' ka' sb Ab nb cb tb Bb mb kb sb' Ab' nb' cb' tb' Bb' mb' kb' w pa pa' pb pb' ⟨⟨fr3 (vl_frY v1.1),fr3 (vl_frY v2.1)⟩,fr3 (vl_frY v1.2),fr3 (vl_frY v2.2)⟩).mono ?_
 rw [e1,e2,e3,e4,e5]
 rintro e w' ⟨s0,A0,n0,c0,t0,B0,m0,d0,s1,A1,n1,c1,t1,B1,m1,d1,rfl,q1,q2,hb⟩
 exact ⟨_,_,_,_,_,_,_,_,_,_,_,_,_,_,_,_,rfl,⟨⟨_,_,_,_,_,_,_,_,rfl,rfl,rfl,rfl,q1⟩,⟨_,_,_,_,_,_,_,_,rfl,rfl,rfl,rfl,q2⟩⟩,hb⟩
theorem trianglev_any {ax ay da bx by' db cx cy dc px py dp:Int} {a0 a1 a2 a3 a4 a5 a6 a7:Value} {b0 b1 b2 b3 b4 b5 b6 b7:Value} {c0 c1 c2 c3 c4 c5 c6 c7:Value} {p0 p1 p2 p3 p4 p5 p6 p7:Value} (w:World) (ha:PTq w a0 a1 a2 a3 a4 a5 a6 a7 ax ay da) (hb:PTq w b0 b1 b2 b3 b4 b5 b6 b7 bx by' db) (hc:PTq w c0 c1 c2 c3 c4 c5 c6 c7 cx cy dc) (hp:PTq w p0 p1 p2 p3 p4 p5 p6 p7 px py dp) (za:Pz ax ay da) (zb:Pz bx by' db) (zc:Pz cx cy dc) (zp:Pz px py dp) :
  Calls Tryz.prog 50 #[.agg #[a0,a1,a2,a3,a4,a5,a6,a7],.agg #[b0,b1,b2,b3,b4,b5,b6,b7],.agg #[c0,c1,c2,c3,c4,c5,c6,c7],.agg #[p0,p1,p2,p3,p4,p5,p6,p7]] w fun e w'=>e=.returned (.tuple #[.int .i64 (trV ax ay da bx by' db cx cy dc px py dp),.int .i64 0])∧Below w.heap.size w w':=by
 have bH:=hJ ha
 have aY:=hJ za
 have bJ:=hJ hb
 have aZ:=hJ zb
 have bK:=hJ hc
 have aT:=hJ zc
 have bU:=hJ hp
 have aO:=hJ zp
 clear ha za hb zb hc zc hp zp
 obtain ⟨s,hs⟩:=nmz (cmpI (arN ax ay da bx by' db cx cy dc) 0)
 have cG:=hJ hs
 obtain ⟨s1,hs1⟩:=nmz (cmpI (arN ax ay da bx by' db px py dp) 0)
 have cH:=hJ hs1
 obtain ⟨s2,hs2⟩:=nmz (cmpI (arN bx by' db cx cy dc px py dp) 0)
 have cI:=hJ hs2
 obtain ⟨s3,hs3⟩:=nmz (cmpI (arN cx cy dc ax ay da px py dp) 0)
 have cJ:=hJ hs3
 obtain ⟨xb1,hxb1⟩:=nmz (inX ax ay da bx by' db px py dp)
 have YX1:=hJ hxb1
 obtain ⟨mp1,hmp1⟩:=nmz (s1*s)
 have YM1:=hJ (show IntKind.i64.wrap (s1*s)=mp1 by rw [←hmp1,←hs1,←hs]; exact i6_wrap (cm_i6 _ _ _ _))
 obtain ⟨tw1,htw1⟩:=nmz ((true && decide (0 < mp1)))
 obtain ⟨tr1,htr1⟩:=nmz ((false || (decide (s1=0) && xb1)))
 have YW1:=hJ htw1
 have YR1:=hJ htr1
 obtain ⟨xb2,hxb2⟩:=nmz (inX bx by' db cx cy dc px py dp)
 have YX2:=hJ hxb2
 obtain ⟨mp2,hmp2⟩:=nmz (s2*s)
 have YM2:=hJ (show IntKind.i64.wrap (s2*s)=mp2 by rw [←hmp2,←hs2,←hs]; exact i6_wrap (cm_i6 _ _ _ _))
 obtain ⟨tw2,htw2⟩:=nmz ((tw1 && decide (0 < mp2)))
 obtain ⟨tr2,htr2⟩:=nmz ((tr1 || (decide (s2=0) && xb2)))
 have YW2:=hJ htw2
 have YR2:=hJ htr2
 obtain ⟨xb3,hxb3⟩:=nmz (inX cx cy dc ax ay da px py dp)
 have YX3:=hJ hxb3
 obtain ⟨mp3,hmp3⟩:=nmz (s3*s)
 have YM3:=hJ (show IntKind.i64.wrap (s3*s)=mp3 by rw [←hmp3,←hs3,←hs]; exact i6_wrap (cm_i6 _ _ _ _))
 obtain ⟨tw3,htw3⟩:=nmz ((tw2 && decide (0 < mp3)))
 obtain ⟨tr3,htr3⟩:=nmz ((tr2 || (decide (s3=0) && xb3)))
 have YW3:=hJ htw3
 have YR3:=hJ htr3
 have bV:=hJ (show trV ax ay da bx by' db cx cy dc px py dp=if tw3=true then 1 else if tr3=true then 0 else -1 by
  rw [←htw3,←htw2,←htw1,←htr3,←htr2,←htr1,←hmp1,←hmp2,←hmp3,←hxb1,←hxb2,←hxb3,←hs,←hs1,←hs2,←hs3,Bool.true_and,Bool.false_or]
  rfl)
 clear hs hs1 hs2 hs3 hxb1 hmp1 htw1 htr1 hxb2 hmp2 htw2 htr2 hxb3 hmp3 htw3 htr3
 obtain ⟨x1,bF⟩:=nmz ((((w.alloc (.cells #[a0,a1,a2,a3,a4,a5,a6,a7] 29)).alloc (.cells #[b0,b1,b2,b3,b4,b5,b6,b7] 29)).alloc (.cells #[c0,c1,c2,c3,c4,c5,c6,c7] 29)).alloc (.cells #[p0,p1,p2,p3,p4,p5,p6,p7] 29))
 have aU:=hJ (show Below w.heap.size w x1 by rw [←bF]; exact (((((Below.refl _ _).alloc (Nat.le_refl _) _).alloc (by simp only [World.size_alloc]; omega) _).alloc (by simp only [World.size_alloc]; omega) _).alloc (by simp only [World.size_alloc]; omega) _))
 have cA:=hJ (show BX 29 x1 w.heap.size #[a0,a1,a2,a3,a4,a5,a6,a7] by rw [←bF]; exact ((((BX.at rfl).alloc _).alloc _).alloc _))
 have cB:=hJ (show BX 29 x1 (w.heap.size+1) #[b0,b1,b2,b3,b4,b5,b6,b7] by rw [←bF]; exact (((BX.at (by simp only [World.size_alloc])).alloc _).alloc _))
 have cC:=hJ (show BX 29 x1 (w.heap.size+2) #[c0,c1,c2,c3,c4,c5,c6,c7] by rw [←bF]; exact ((BX.at (by simp only [World.size_alloc])).alloc _))
 have bW:=hJ (show BX 29 x1 (w.heap.size+3) #[p0,p1,p2,p3,p4,p5,p6,p7] by rw [←bF]; exact (BX.at (by simp only [World.size_alloc])))
 obtain ⟨cK,cL,cM,cN,cO,cP,cQ,cR⟩:=cA.out.q8 0 1 2 3 4 5 6 7
 obtain ⟨cS,cT,cU,cV,cW,cX,cY,cZ⟩:=cB.out.q8 0 1 2 3 4 5 6 7
 obtain ⟨dA,dB,dD,dE,dF,dG,dH,dI⟩:=cC.out.q8 0 1 2 3 4 5 6 7
 have bX:=hJ (PTq.new bH.out aU.out)
 have bY:=hJ (PTq.new bJ.out aU.out)
 have bZ:=hJ (PTq.new bK.out aU.out)
 go_enter Tryz.func50,Tryz.ntmps50
 go_wp2_with fail
 clear bF cK cL cM cN cO cP cQ cR cS cT cU cV cW cX cY cZ dA dB dD dE dF dG dH dI
 refine (sidev_any x1 bX.out bY.out bZ.out aY.out aZ.out aT.out).mono ?_
 rw [cG.out]
 rintro e w26 ⟨rfl,hb⟩
 have aN:=hJ hb
 clear hb
 have cD:=hJ (BX.new cA.out aN.out)
 obtain ⟨dJ,dK,dL,dM,dN,dO,dP,dQ⟩:=cD.out.q8 0 1 2 3 4 5 6 7
 have cE:=hJ (BX.new cB.out aN.out)
 obtain ⟨dR,dS,dT,dU,dW,dX,dY,dZ⟩:=cE.out.q8 0 1 2 3 4 5 6 7
 obtain ⟨eA,eB,eC,eD,eE,eF,eG,eH⟩:=cE.out.q8 0 1 2 3 4 5 6 7
 have cF:=hJ (BX.new cC.out aN.out)
 obtain ⟨eI,eJ,eK,eL,eM,eN,eO,eP⟩:=cF.out.q8 0 1 2 3 4 5 6 7
 obtain ⟨eQ,eR,eS,eT,eU,eV,eW,eX⟩:=cF.out.q8 0 1 2 3 4 5 6 7
 obtain ⟨eY,eZ,fA,fB,fC,fD,fE,fF⟩:=cD.out.q8 0 1 2 3 4 5 6 7
 go_wp2_with fail
 clear dJ dK dL dM dN dO dP dQ dR dS dT dU dW dX dY dZ eA eB eC eD eE eF eG eH eI eJ eK eL eM eN eO eP eQ eR eS eT eU eV eW eX eY eZ fA fB fC fD fE fF
 go_loopw [38,12,13] (fun tv tx ty wr=>∃ i:Nat,tv=.int .i64 (i:Int)∧Below w26.heap.size w26 wr∧((i=0∧tx=.bool true∧ty=.bool false)∨(i=1∧tx=.bool tw1∧ty=.bool tr1)∨(i=2∧tx=.bool tw2∧ty=.bool tr2)∨(i=3∧tx=.bool tw3∧ty=.bool tr3))) (fun tv _ _ _=>3 - (intOf tv).toNat)
 case atStart=>exact ⟨0,rfl,Below.refl _ _,.inl ⟨rfl,rfl,rfl⟩⟩
 case round =>
  obtain ⟨i75,rfl,hbel,hdis⟩:=hrel
  obtain ⟨wl75,rfl⟩:∃ W:World,W=wr:=⟨_,rfl⟩
  have aB:=hJ hbel
  clear hbel
  rcases hdis with ⟨rfl,rfl,rfl⟩ | ⟨rfl,rfl,rfl⟩ | ⟨rfl,rfl,rfl⟩ | ⟨rfl,rfl,rfl⟩
  ·(try rw [show ((0:Nat):Int)=0 from rfl])
   obtain ⟨oa0,oa1,oa2,oa3⟩:=bH.out.1.one
   obtain ⟨oa4,oa5,oa6,oa7⟩:=bH.out.2.one
   obtain ⟨ob0,ob1,ob2,ob3⟩:=bJ.out.1.one
   obtain ⟨ob4,ob5,ob6,ob7⟩:=bJ.out.2.one
   have hix:∀ wx,(Instr.index 179 (.agg #[a0,a1,a2,a3,a4,a5,a6,a7,b0,b1,b2,b3,b4,b5,b6,b7,b0,b1,b2,b3,b4,b5,b6,b7,c0,c1,c2,c3,c4,c5,c6,c7,c0,c1,c2,c3,c4,c5,c6,c7,a0,a1,a2,a3,a4,a5,a6,a7]) (.int .i64 0)).run Tryz.prog wx=.ok (.agg #[a0,a1,a2,a3,a4,a5,a6,a7,b0,b1,b2,b3,b4,b5,b6,b7]) wx:=fun wx=>tx3_0 wx
   have hone:(#[a0,a1,a2,a3,a4,a5,a6,a7,b0,b1,b2,b3,b4,b5,b6,b7]:Array Value).all (·.oneCell')=true:=by simp only [List.all_toArray,List.all_cons,List.all_nil,oa0,oa1,oa2,oa3,oa4,oa5,oa6,oa7,ob0,ob1,ob2,ob3,ob4,ob5,ob6,ob7,Bool.and_self]
   go_wp2_with (refine wpList_store_row rfl 178 _ _ rfl wl75.heap.size #[a0,a1,a2,a3,a4,a5,a6,a7,b0,b1,b2,b3,b4,b5,b6,b7] rfl rfl 178 #[.bool false,.slice none 0 0,.bool false,.slice none 0 0,.bool false,.slice none 0 0,.bool false,.slice none 0 0,.bool false,.slice none 0 0,.bool false,.slice none 0 0,.bool false,.slice none 0 0,.bool false,.slice none 0 0] (heap_alloc_new wl75 _) (by kernel_rfl) rfl hone ?_; refine stop_here (fun q bA=>?_))
   rw [bA.out,World.setRow_alloc_new]
   clear bA q
   clear oa0 oa1 oa2 oa3 oa4 oa5 oa6 oa7 ob0 ob1 ob2 ob3 ob4 ob5 ob6 ob7 hix hone
   obtain ⟨x76,bQ⟩:=nmz (wl75.alloc (.cells #[a0,a1,a2,a3,a4,a5,a6,a7,b0,b1,b2,b3,b4,b5,b6,b7] 178))
   have bG:=hJ (show Below wl75.heap.size wl75 x76 by rw [←bQ]; exact ((Below.refl _ _).alloc (Nat.le_refl _) _))
   have bR:=hJ (show BX 178 x76 wl75.heap.size #[a0,a1,a2,a3,a4,a5,a6,a7,b0,b1,b2,b3,b4,b5,b6,b7] by rw [←bQ]; exact (BX.at rfl))
   rw [bQ]
   obtain ⟨fG,fH,fI,fJ,fK,fL,fM,fN⟩:=bR.out.q8 0 1 2 3 4 5 6 7
   obtain ⟨fO,fP,fQ,fR,fS,fT,fU,fV⟩:=bR.out.q8 8 9 10 11 12 13 14 15
   have aP:=hJ (bt (bt aN.out aB.out) bG.out)
   have aL:=hJ (BX.new bW.out aP.out)
   obtain ⟨fW,fX,fY,fZ,gA,gB,gC,gD⟩:=aL.out.q8 0 1 2 3 4 5 6 7
   have bB:=hJ (PTq.new bX.out aP.out)
   have bC:=hJ (PTq.new bY.out aP.out)
   have bL:=hJ (bt (bt (bt aU.out aN.out) aB.out) bG.out)
   have aM:=hJ (PTq.new bU.out bL.out)
   go_wp2_with fail
   clear bQ fG fH fI fJ fK fL fM fN fO fP fQ fR fS fT fU fV fW fX fY fZ gA gB gC gD
   refine (sidev_any x76 bB.out bC.out aM.out aY.out aZ.out aO.out).mono ?_
   rw [cH.out]
   rintro e w101 ⟨rfl,hb⟩
   have aK:=hJ hb
   clear hb
   by_cases hm:0 < mp1
   ·have aC:=hJ (show tw1=true by rw [←YW1.out,decide_eq_true hm]; rfl)
    have aG:=YM1.out
    by_cases hz:s1=0
    ·have ez:(s1 == 0)=true:=by simp [hz]
     have aA:=hJ (show tr1=xb1 by rw [←YR1.out,decide_eq_true hz]; rfl)
     clear hz
     have bM:=hJ (BX.new bR.out aK.out)
     obtain ⟨gE,gF,gG,gH,gI,gJ,gK,gL⟩:=bM.out.q8 0 1 2 3 4 5 6 7
     obtain ⟨gM,gN,gO,gP,gQ,gR,gS,gT⟩:=bM.out.q8 8 9 10 11 12 13 14 15
     have aH:=hJ (BX.new aL.out aK.out)
     obtain ⟨gU,gV,gW,gX,gY,gZ,hA,hB⟩:=aH.out.q8 0 1 2 3 4 5 6 7
     have aV:=hJ (PTq.new bB.out aK.out)
     have aW:=hJ (PTq.new bC.out aK.out)
     have aI:=hJ (PTq.new aM.out aK.out)
     go_wp2_with fail
     clear aG gE gF gG gH gI gJ gK gL gM gN gO gP gQ gR gS gT gU gV gW gX gY gZ hA hB
     refine (inboxv_any w101 aV.out aW.out aI.out aY.out aZ.out aO.out).mono ?_
     rw [YX1.out]
     rintro e w126 ⟨rfl,hb⟩
     have hC:=hJ hb
     clear hb
     have aJ:=hJ (bt (bt (bt aB.out bG.out) aK.out) hC.out)
     go_wp2_with fail
     go_roundw
     case rel=>exact ⟨1,by go_num,aJ.out,.inr (.inl ⟨rfl,by rw [aC.out],by rw [aA.out]⟩)⟩
     case measure=>simp [intOf] <;> omega
    have ez:(s1 == 0)=false:=by simp [hz]
    have aA:=hJ (show tr1=false by rw [←YR1.out,decide_eq_false hz]; rfl)
    clear hz
    have aD:=hJ (bt (bt aB.out bG.out) aK.out)
    go_wp2_with fail
    clear aG
    go_roundw
    case rel=>exact ⟨1,by go_num,aD.out,.inr (.inl ⟨rfl,by rw [aC.out],by rw [aA.out]⟩)⟩
    case measure=>simp [intOf] <;> omega
   have aC:=hJ (show tw1=false by rw [←YW1.out,decide_eq_false hm]; rfl)
   have dm:decide (0 < mp1)=false:=decide_eq_false hm
   clear hm
   have aG:=YM1.out
   by_cases hz:s1=0
   ·have ez:(s1 == 0)=true:=by simp [hz]
    have aA:=hJ (show tr1=xb1 by rw [←YR1.out,decide_eq_true hz]; rfl)
    clear hz
    have bM:=hJ (BX.new bR.out aK.out)
    obtain ⟨hD,hE,hF,hG,hH,hI,hK,hL⟩:=bM.out.q8 0 1 2 3 4 5 6 7
    obtain ⟨hM,hN,hO,hP,hQ,hR,hS,hT⟩:=bM.out.q8 8 9 10 11 12 13 14 15
    have aH:=hJ (BX.new aL.out aK.out)
    obtain ⟨hU,hV,hW,hX,hY,hZ,iA,iB⟩:=aH.out.q8 0 1 2 3 4 5 6 7
    have aV:=hJ (PTq.new bB.out aK.out)
    have aW:=hJ (PTq.new bC.out aK.out)
    have aI:=hJ (PTq.new aM.out aK.out)
    go_wp2_with fail
    clear aG hD hE hF hG hH hI hK hL hM hN hO hP hQ hR hS hT hU hV hW hX hY hZ iA iB
    refine (inboxv_any w101 aV.out aW.out aI.out aY.out aZ.out aO.out).mono ?_
    rw [YX1.out]
    rintro e w151 ⟨rfl,hb⟩
    have iC:=hJ hb
    clear hb
    have aJ:=hJ (bt (bt (bt aB.out bG.out) aK.out) iC.out)
    go_wp2_with fail
    go_roundw
    case rel=>exact ⟨1,by go_num,aJ.out,.inr (.inl ⟨rfl,by rw [aC.out],by rw [aA.out]⟩)⟩
    case measure=>simp [intOf] <;> omega
   have ez:(s1 == 0)=false:=by simp [hz]
   have aA:=hJ (show tr1=false by rw [←YR1.out,decide_eq_false hz]; rfl)
   clear hz
   have aD:=hJ (bt (bt aB.out bG.out) aK.out)
   go_wp2_with fail
   clear aG
   go_roundw
   case rel=>exact ⟨1,by go_num,aD.out,.inr (.inl ⟨rfl,by rw [aC.out],by rw [aA.out]⟩)⟩
   case measure=>simp [intOf] <;> omega
  ·(try rw [show ((1:Nat):Int)=1 from rfl])
   obtain ⟨ob0,ob1,ob2,ob3⟩:=bJ.out.1.one
   obtain ⟨ob4,ob5,ob6,ob7⟩:=bJ.out.2.one
   obtain ⟨oc0,oc1,oc2,oc3⟩:=bK.out.1.one
   obtain ⟨oc4,oc5,oc6,oc7⟩:=bK.out.2.one
   have hix:∀ wx,(Instr.index 179 (.agg #[a0,a1,a2,a3,a4,a5,a6,a7,b0,b1,b2,b3,b4,b5,b6,b7,b0,b1,b2,b3,b4,b5,b6,b7,c0,c1,c2,c3,c4,c5,c6,c7,c0,c1,c2,c3,c4,c5,c6,c7,a0,a1,a2,a3,a4,a5,a6,a7]) (.int .i64 1)).run Tryz.prog wx=.ok (.agg #[b0,b1,b2,b3,b4,b5,b6,b7,c0,c1,c2,c3,c4,c5,c6,c7]) wx:=fun wx=>tx3_1 wx
   have hone:(#[b0,b1,b2,b3,b4,b5,b6,b7,c0,c1,c2,c3,c4,c5,c6,c7]:Array Value).all (·.oneCell')=true:=by simp only [List.all_toArray,List.all_cons,List.all_nil,ob0,ob1,ob2,ob3,ob4,ob5,ob6,ob7,oc0,oc1,oc2,oc3,oc4,oc5,oc6,oc7,Bool.and_self]
   go_wp2_with (refine wpList_store_row rfl 178 _ _ rfl wl75.heap.size #[b0,b1,b2,b3,b4,b5,b6,b7,c0,c1,c2,c3,c4,c5,c6,c7] rfl rfl 178 #[.bool false,.slice none 0 0,.bool false,.slice none 0 0,.bool false,.slice none 0 0,.bool false,.slice none 0 0,.bool false,.slice none 0 0,.bool false,.slice none 0 0,.bool false,.slice none 0 0,.bool false,.slice none 0 0] (heap_alloc_new wl75 _) (by kernel_rfl) rfl hone ?_; refine stop_here (fun q bA=>?_))
   rw [bA.out,World.setRow_alloc_new]
   clear bA q
   clear ob0 ob1 ob2 ob3 ob4 ob5 ob6 ob7 oc0 oc1 oc2 oc3 oc4 oc5 oc6 oc7 hix hone
   obtain ⟨x152,bS⟩:=nmz (wl75.alloc (.cells #[b0,b1,b2,b3,b4,b5,b6,b7,c0,c1,c2,c3,c4,c5,c6,c7] 178))
   have aQ:=hJ (show Below wl75.heap.size wl75 x152 by rw [←bS]; exact ((Below.refl _ _).alloc (Nat.le_refl _) _))
   have bN:=hJ (show BX 178 x152 wl75.heap.size #[b0,b1,b2,b3,b4,b5,b6,b7,c0,c1,c2,c3,c4,c5,c6,c7] by rw [←bS]; exact (BX.at rfl))
   rw [bS]
   obtain ⟨iD,iE,iF,iG,iH,iI,iJ,iK⟩:=bN.out.q8 0 1 2 3 4 5 6 7
   obtain ⟨iL,iM,iN,iO,iP,iQ,iR,iS⟩:=bN.out.q8 8 9 10 11 12 13 14 15
   have aP:=hJ (bt (bt aN.out aB.out) aQ.out)
   have aL:=hJ (BX.new bW.out aP.out)
   obtain ⟨iT,iU,iV,iW,iX,iY,iZ,jA⟩:=aL.out.q8 0 1 2 3 4 5 6 7
   have bC:=hJ (PTq.new bY.out aP.out)
   have aX:=hJ (PTq.new bZ.out aP.out)
   have bL:=hJ (bt (bt (bt aU.out aN.out) aB.out) aQ.out)
   have aM:=hJ (PTq.new bU.out bL.out)
   go_wp2_with fail
   clear bS iD iE iF iG iH iI iJ iK iL iM iN iO iP iQ iR iS iT iU iV iW iX iY iZ jA
   refine (sidev_any x152 bC.out aX.out aM.out aZ.out aT.out aO.out).mono ?_
   rw [cI.out]
   rintro e w177 ⟨rfl,hb⟩
   have aE:=hJ hb
   clear hb
   rcases (show (tw1=true∧0 < mp2)∨(tw1=true∧¬ 0 < mp2)∨tw1=false by cases tw1 <;> by_cases h:0 < mp2 <;> simp [h]) with ⟨hw,hm⟩ | ⟨hw,hm⟩ | hw
   ·subst hw
    have aC:=hJ (show tw2=true by rw [←YW2.out,decide_eq_true hm]; rfl)
    have aG:=YM2.out
    rcases (show tr1=true∨(tr1=false∧s2=0)∨(tr1=false∧¬ s2=0) by cases tr1 <;> by_cases h:s2=0 <;> simp [h]) with hr | ⟨hr,hz⟩ | ⟨hr,hz⟩
    ·subst hr
     have aA:=hJ (show tr2=true by rw [←YR2.out]; rfl)
     have aD:=hJ (bt (bt aB.out aQ.out) aE.out)
     go_wp2_with fail
     clear aG
     go_roundw
     case rel=>exact ⟨2,by go_num,aD.out,.inr (.inr (.inl ⟨rfl,by rw [aC.out],by rw [aA.out]⟩))⟩
     case measure=>simp [intOf] <;> omega
    ·subst hr
     have ez:(s2 == 0)=true:=by simp [hz]
     have aA:=hJ (show tr2=xb2 by rw [←YR2.out,decide_eq_true hz]; rfl)
     clear hz
     have bD:=hJ (BX.new bN.out aE.out)
     obtain ⟨jB,jC,jD,jE,jF,jG,jH,jI⟩:=bD.out.q8 0 1 2 3 4 5 6 7
     obtain ⟨jJ,jK,jL,jM,jN,jO,jP,jQ⟩:=bD.out.q8 8 9 10 11 12 13 14 15
     have aH:=hJ (BX.new aL.out aE.out)
     obtain ⟨jR,jS,jT,jU,jV,jW,jX,jY⟩:=aH.out.q8 0 1 2 3 4 5 6 7
     have aW:=hJ (PTq.new bC.out aE.out)
     have aR:=hJ (PTq.new aX.out aE.out)
     have aI:=hJ (PTq.new aM.out aE.out)
     go_wp2_with fail
     clear aG jB jC jD jE jF jG jH jI jJ jK jL jM jN jO jP jQ jR jS jT jU jV jW jX jY
     refine (inboxv_any w177 aW.out aR.out aI.out aZ.out aT.out aO.out).mono ?_
     rw [YX2.out]
     rintro e w202 ⟨rfl,hb⟩
     have jZ:=hJ hb
     clear hb
     have aJ:=hJ (bt (bt (bt aB.out aQ.out) aE.out) jZ.out)
     go_wp2_with fail
     go_roundw
     case rel=>exact ⟨2,by go_num,aJ.out,.inr (.inr (.inl ⟨rfl,by rw [aC.out],by rw [aA.out]⟩))⟩
     case measure=>simp [intOf] <;> omega
    subst hr
    have ez:(s2 == 0)=false:=by simp [hz]
    have aA:=hJ (show tr2=false by rw [←YR2.out,decide_eq_false hz]; rfl)
    clear hz
    have aD:=hJ (bt (bt aB.out aQ.out) aE.out)
    go_wp2_with fail
    clear aG
    go_roundw
    case rel=>exact ⟨2,by go_num,aD.out,.inr (.inr (.inl ⟨rfl,by rw [aC.out],by rw [aA.out]⟩))⟩
    case measure=>simp [intOf] <;> omega
   ·subst hw
    have aC:=hJ (show tw2=false by rw [←YW2.out,decide_eq_false hm]; rfl)
    have dm:decide (0 < mp2)=false:=decide_eq_false hm
    clear hm
    have aG:=YM2.out
    rcases (show tr1=true∨(tr1=false∧s2=0)∨(tr1=false∧¬ s2=0) by cases tr1 <;> by_cases h:s2=0 <;> simp [h]) with hr | ⟨hr,hz⟩ | ⟨hr,hz⟩
    ·subst hr
     have aA:=hJ (show tr2=true by rw [←YR2.out]; rfl)
     have aD:=hJ (bt (bt aB.out aQ.out) aE.out)
     go_wp2_with fail
     clear aG
     go_roundw
     case rel=>exact ⟨2,by go_num,aD.out,.inr (.inr (.inl ⟨rfl,by rw [aC.out],by rw [aA.out]⟩))⟩
     case measure=>simp [intOf] <;> omega
    ·subst hr
     have ez:(s2 == 0)=true:=by simp [hz]
     have aA:=hJ (show tr2=xb2 by rw [←YR2.out,decide_eq_true hz]; rfl)
     clear hz
     have bD:=hJ (BX.new bN.out aE.out)
     obtain ⟨kA,kB,kC,kD,kE,kF,kG,kH⟩:=bD.out.q8 0 1 2 3 4 5 6 7
     obtain ⟨kI,kJ,kK,kL,kM,kN,kO,kP⟩:=bD.out.q8 8 9 10 11 12 13 14 15
     have aH:=hJ (BX.new aL.out aE.out)
     obtain ⟨kQ,kR,kS,kT,kU,kV,kW,kX⟩:=aH.out.q8 0 1 2 3 4 5 6 7
     have aW:=hJ (PTq.new bC.out aE.out)
     have aR:=hJ (PTq.new aX.out aE.out)
     have aI:=hJ (PTq.new aM.out aE.out)
     go_wp2_with fail
     clear aG kA kB kC kD kE kF kG kH kI kJ kK kL kM kN kO kP kQ kR kS kT kU kV kW kX
     refine (inboxv_any w177 aW.out aR.out aI.out aZ.out aT.out aO.out).mono ?_
     rw [YX2.out]
     rintro e w227 ⟨rfl,hb⟩
     have kY:=hJ hb
     clear hb
     have aJ:=hJ (bt (bt (bt aB.out aQ.out) aE.out) kY.out)
     go_wp2_with fail
     go_roundw
     case rel=>exact ⟨2,by go_num,aJ.out,.inr (.inr (.inl ⟨rfl,by rw [aC.out],by rw [aA.out]⟩))⟩
     case measure=>simp [intOf] <;> omega
    subst hr
    have ez:(s2 == 0)=false:=by simp [hz]
    have aA:=hJ (show tr2=false by rw [←YR2.out,decide_eq_false hz]; rfl)
    clear hz
    have aD:=hJ (bt (bt aB.out aQ.out) aE.out)
    go_wp2_with fail
    clear aG
    go_roundw
    case rel=>exact ⟨2,by go_num,aD.out,.inr (.inr (.inl ⟨rfl,by rw [aC.out],by rw [aA.out]⟩))⟩
    case measure=>simp [intOf] <;> omega
   subst hw
   have aC:=hJ (show tw2=false by rw [←YW2.out]; rfl)
   rcases (show tr1=true∨(tr1=false∧s2=0)∨(tr1=false∧¬ s2=0) by cases tr1 <;> by_cases h:s2=0 <;> simp [h]) with hr | ⟨hr,hz⟩ | ⟨hr,hz⟩
   ·subst hr
    have aA:=hJ (show tr2=true by rw [←YR2.out]; rfl)
    have aD:=hJ (bt (bt aB.out aQ.out) aE.out)
    go_wp2_with fail
    go_roundw
    case rel=>exact ⟨2,by go_num,aD.out,.inr (.inr (.inl ⟨rfl,by rw [aC.out],by rw [aA.out]⟩))⟩
    case measure=>simp [intOf] <;> omega
   ·subst hr
    have ez:(s2 == 0)=true:=by simp [hz]
    have aA:=hJ (show tr2=xb2 by rw [←YR2.out,decide_eq_true hz]; rfl)
    clear hz
    have bD:=hJ (BX.new bN.out aE.out)
    obtain ⟨kZ,lA,lB,lC,lD,lE,lF,lG⟩:=bD.out.q8 0 1 2 3 4 5 6 7
    obtain ⟨lH,lI,lJ,lK,lL,lM,lN,lO⟩:=bD.out.q8 8 9 10 11 12 13 14 15
    have aH:=hJ (BX.new aL.out aE.out)
    obtain ⟨lP,lQ,lR,lS,lT,lU,lV,lW⟩:=aH.out.q8 0 1 2 3 4 5 6 7
    have aW:=hJ (PTq.new bC.out aE.out)
    have aR:=hJ (PTq.new aX.out aE.out)
    have aI:=hJ (PTq.new aM.out aE.out)
    go_wp2_with fail
    clear kZ lA lB lC lD lE lF lG lH lI lJ lK lL lM lN lO lP lQ lR lS lT lU lV lW
    refine (inboxv_any w177 aW.out aR.out aI.out aZ.out aT.out aO.out).mono ?_
    rw [YX2.out]
    rintro e w252 ⟨rfl,hb⟩
    have lX:=hJ hb
    clear hb
    have aJ:=hJ (bt (bt (bt aB.out aQ.out) aE.out) lX.out)
    go_wp2_with fail
    go_roundw
    case rel=>exact ⟨2,by go_num,aJ.out,.inr (.inr (.inl ⟨rfl,by rw [aC.out],by rw [aA.out]⟩))⟩
    case measure=>simp [intOf] <;> omega
   subst hr
   have ez:(s2 == 0)=false:=by simp [hz]
   have aA:=hJ (show tr2=false by rw [←YR2.out,decide_eq_false hz]; rfl)
   clear hz
   have aD:=hJ (bt (bt aB.out aQ.out) aE.out)
   go_wp2_with fail
   go_roundw
   case rel=>exact ⟨2,by go_num,aD.out,.inr (.inr (.inl ⟨rfl,by rw [aC.out],by rw [aA.out]⟩))⟩
   case measure=>simp [intOf] <;> omega
  ·(try rw [show ((2:Nat):Int)=2 from rfl])
   obtain ⟨oc0,oc1,oc2,oc3⟩:=bK.out.1.one
   obtain ⟨oc4,oc5,oc6,oc7⟩:=bK.out.2.one
   obtain ⟨oa0,oa1,oa2,oa3⟩:=bH.out.1.one
   obtain ⟨oa4,oa5,oa6,oa7⟩:=bH.out.2.one
   have hix:∀ wx,(Instr.index 179 (.agg #[a0,a1,a2,a3,a4,a5,a6,a7,b0,b1,b2,b3,b4,b5,b6,b7,b0,b1,b2,b3,b4,b5,b6,b7,c0,c1,c2,c3,c4,c5,c6,c7,c0,c1,c2,c3,c4,c5,c6,c7,a0,a1,a2,a3,a4,a5,a6,a7]) (.int .i64 2)).run Tryz.prog wx=.ok (.agg #[c0,c1,c2,c3,c4,c5,c6,c7,a0,a1,a2,a3,a4,a5,a6,a7]) wx:=fun wx=>tx3_2 wx
   have hone:(#[c0,c1,c2,c3,c4,c5,c6,c7,a0,a1,a2,a3,a4,a5,a6,a7]:Array Value).all (·.oneCell')=true:=by simp only [List.all_toArray,List.all_cons,List.all_nil,oc0,oc1,oc2,oc3,oc4,oc5,oc6,oc7,oa0,oa1,oa2,oa3,oa4,oa5,oa6,oa7,Bool.and_self]
   go_wp2_with (refine wpList_store_row rfl 178 _ _ rfl wl75.heap.size #[c0,c1,c2,c3,c4,c5,c6,c7,a0,a1,a2,a3,a4,a5,a6,a7] rfl rfl 178 #[.bool false,.slice none 0 0,.bool false,.slice none 0 0,.bool false,.slice none 0 0,.bool false,.slice none 0 0,.bool false,.slice none 0 0,.bool false,.slice none 0 0,.bool false,.slice none 0 0,.bool false,.slice none 0 0] (heap_alloc_new wl75 _) (by kernel_rfl) rfl hone ?_; refine stop_here (fun q bA=>?_))
   rw [bA.out,World.setRow_alloc_new]
   clear bA q
   clear oc0 oc1 oc2 oc3 oc4 oc5 oc6 oc7 oa0 oa1 oa2 oa3 oa4 oa5 oa6 oa7 hix hone
   obtain ⟨x253,bT⟩:=nmz (wl75.alloc (.cells #[c0,c1,c2,c3,c4,c5,c6,c7,a0,a1,a2,a3,a4,a5,a6,a7] 178))
   have aS:=hJ (show Below wl75.heap.size wl75 x253 by rw [←bT]; exact ((Below.refl _ _).alloc (Nat.le_refl _) _))
   have bO:=hJ (show BX 178 x253 wl75.heap.size #[c0,c1,c2,c3,c4,c5,c6,c7,a0,a1,a2,a3,a4,a5,a6,a7] by rw [←bT]; exact (BX.at rfl))
   rw [bT]
   obtain ⟨lY,lZ,mA,mB,mC,mD,mE,mF⟩:=bO.out.q8 0 1 2 3 4 5 6 7
   obtain ⟨mG,mH,mI,mJ,mK,mL,mM,mN⟩:=bO.out.q8 8 9 10 11 12 13 14 15
   have aP:=hJ (bt (bt aN.out aB.out) aS.out)
   have aL:=hJ (BX.new bW.out aP.out)
   obtain ⟨mO,mP,mQ,mR,mS,mT,mU,mV⟩:=aL.out.q8 0 1 2 3 4 5 6 7
   have aX:=hJ (PTq.new bZ.out aP.out)
   have bB:=hJ (PTq.new bX.out aP.out)
   have bL:=hJ (bt (bt (bt aU.out aN.out) aB.out) aS.out)
   have aM:=hJ (PTq.new bU.out bL.out)
   go_wp2_with fail
   clear bT lY lZ mA mB mC mD mE mF mG mH mI mJ mK mL mM mN mO mP mQ mR mS mT mU mV
   refine (sidev_any x253 aX.out bB.out aM.out aT.out aY.out aO.out).mono ?_
   rw [cJ.out]
   rintro e w278 ⟨rfl,hb⟩
   have aF:=hJ hb
   clear hb
   rcases (show (tw2=true∧0 < mp3)∨(tw2=true∧¬ 0 < mp3)∨tw2=false by cases tw2 <;> by_cases h:0 < mp3 <;> simp [h]) with ⟨hw,hm⟩ | ⟨hw,hm⟩ | hw
   ·subst hw
    have aC:=hJ (show tw3=true by rw [←YW3.out,decide_eq_true hm]; rfl)
    have aG:=YM3.out
    rcases (show tr2=true∨(tr2=false∧s3=0)∨(tr2=false∧¬ s3=0) by cases tr2 <;> by_cases h:s3=0 <;> simp [h]) with hr | ⟨hr,hz⟩ | ⟨hr,hz⟩
    ·subst hr
     have aA:=hJ (show tr3=true by rw [←YR3.out]; rfl)
     have aD:=hJ (bt (bt aB.out aS.out) aF.out)
     go_wp2_with fail
     clear aG
     go_roundw
     case rel=>exact ⟨3,by go_num,aD.out,.inr (.inr (.inr (⟨rfl,by rw [aC.out],by rw [aA.out]⟩)))⟩
     case measure=>simp [intOf] <;> omega
    ·subst hr
     have ez:(s3 == 0)=true:=by simp [hz]
     have aA:=hJ (show tr3=xb3 by rw [←YR3.out,decide_eq_true hz]; rfl)
     clear hz
     have bE:=hJ (BX.new bO.out aF.out)
     obtain ⟨mW,mX,mY,mZ,nA,nB,nC,nD⟩:=bE.out.q8 0 1 2 3 4 5 6 7
     obtain ⟨nE,nF,nG,nH,nJ,nK,nL,nM⟩:=bE.out.q8 8 9 10 11 12 13 14 15
     have aH:=hJ (BX.new aL.out aF.out)
     obtain ⟨nN,nO,nP,nQ,nR,nS,nT,nU⟩:=aH.out.q8 0 1 2 3 4 5 6 7
     have aR:=hJ (PTq.new aX.out aF.out)
     have aV:=hJ (PTq.new bB.out aF.out)
     have aI:=hJ (PTq.new aM.out aF.out)
     go_wp2_with fail
     clear aG mW mX mY mZ nA nB nC nD nE nF nG nH nJ nK nL nM nN nO nP nQ nR nS nT nU
     refine (inboxv_any w278 aR.out aV.out aI.out aT.out aY.out aO.out).mono ?_
     rw [YX3.out]
     rintro e w303 ⟨rfl,hb⟩
     have nV:=hJ hb
     clear hb
     have aJ:=hJ (bt (bt (bt aB.out aS.out) aF.out) nV.out)
     go_wp2_with fail
     go_roundw
     case rel=>exact ⟨3,by go_num,aJ.out,.inr (.inr (.inr (⟨rfl,by rw [aC.out],by rw [aA.out]⟩)))⟩
     case measure=>simp [intOf] <;> omega
    subst hr
    have ez:(s3 == 0)=false:=by simp [hz]
    have aA:=hJ (show tr3=false by rw [←YR3.out,decide_eq_false hz]; rfl)
    clear hz
    have aD:=hJ (bt (bt aB.out aS.out) aF.out)
    go_wp2_with fail
    clear aG
    go_roundw
    case rel=>exact ⟨3,by go_num,aD.out,.inr (.inr (.inr (⟨rfl,by rw [aC.out],by rw [aA.out]⟩)))⟩
    case measure=>simp [intOf] <;> omega
   ·subst hw
    have aC:=hJ (show tw3=false by rw [←YW3.out,decide_eq_false hm]; rfl)
    have dm:decide (0 < mp3)=false:=decide_eq_false hm
    clear hm
    have aG:=YM3.out
    rcases (show tr2=true∨(tr2=false∧s3=0)∨(tr2=false∧¬ s3=0) by cases tr2 <;> by_cases h:s3=0 <;> simp [h]) with hr | ⟨hr,hz⟩ | ⟨hr,hz⟩
    ·subst hr
     have aA:=hJ (show tr3=true by rw [←YR3.out]; rfl)
     have aD:=hJ (bt (bt aB.out aS.out) aF.out)
     go_wp2_with fail
     clear aG
     go_roundw
     case rel=>exact ⟨3,by go_num,aD.out,.inr (.inr (.inr (⟨rfl,by rw [aC.out],by rw [aA.out]⟩)))⟩
     case measure=>simp [intOf] <;> omega
    ·subst hr
     have ez:(s3 == 0)=true:=by simp [hz]
     have aA:=hJ (show tr3=xb3 by rw [←YR3.out,decide_eq_true hz]; rfl)
     clear hz
     have bE:=hJ (BX.new bO.out aF.out)
     obtain ⟨nW,nX,nY,nZ,oA,oB,oC,oD⟩:=bE.out.q8 0 1 2 3 4 5 6 7
     obtain ⟨oE,oF,oG,oH,oI,oJ,oK,oL⟩:=bE.out.q8 8 9 10 11 12 13 14 15
     have aH:=hJ (BX.new aL.out aF.out)
     obtain ⟨oM,oN,oO,oP,oQ,oR,oS,oT⟩:=aH.out.q8 0 1 2 3 4 5 6 7
     have aR:=hJ (PTq.new aX.out aF.out)
     have aV:=hJ (PTq.new bB.out aF.out)
     have aI:=hJ (PTq.new aM.out aF.out)
     go_wp2_with fail
     clear aG nW nX nY nZ oA oB oC oD oE oF oG oH oI oJ oK oL oM oN oO oP oQ oR oS oT
     refine (inboxv_any w278 aR.out aV.out aI.out aT.out aY.out aO.out).mono ?_
     rw [YX3.out]
     rintro e w328 ⟨rfl,hb⟩
     have oU:=hJ hb
     clear hb
     have aJ:=hJ (bt (bt (bt aB.out aS.out) aF.out) oU.out)
     go_wp2_with fail
     go_roundw
     case rel=>exact ⟨3,by go_num,aJ.out,.inr (.inr (.inr (⟨rfl,by rw [aC.out],by rw [aA.out]⟩)))⟩
     case measure=>simp [intOf] <;> omega
    subst hr
    have ez:(s3 == 0)=false:=by simp [hz]
    have aA:=hJ (show tr3=false by rw [←YR3.out,decide_eq_false hz]; rfl)
    clear hz
    have aD:=hJ (bt (bt aB.out aS.out) aF.out)
    go_wp2_with fail
    clear aG
    go_roundw
    case rel=>exact ⟨3,by go_num,aD.out,.inr (.inr (.inr (⟨rfl,by rw [aC.out],by rw [aA.out]⟩)))⟩
    case measure=>simp [intOf] <;> omega
   subst hw
   have aC:=hJ (show tw3=false by rw [←YW3.out]; rfl)
   rcases (show tr2=true∨(tr2=false∧s3=0)∨(tr2=false∧¬ s3=0) by cases tr2 <;> by_cases h:s3=0 <;> simp [h]) with hr | ⟨hr,hz⟩ | ⟨hr,hz⟩
   ·subst hr
    have aA:=hJ (show tr3=true by rw [←YR3.out]; rfl)
    have aD:=hJ (bt (bt aB.out aS.out) aF.out)
    go_wp2_with fail
    go_roundw
    case rel=>exact ⟨3,by go_num,aD.out,.inr (.inr (.inr (⟨rfl,by rw [aC.out],by rw [aA.out]⟩)))⟩
    case measure=>simp [intOf] <;> omega
   ·subst hr
    have ez:(s3 == 0)=true:=by simp [hz]
    have aA:=hJ (show tr3=xb3 by rw [←YR3.out,decide_eq_true hz]; rfl)
    clear hz
    have bE:=hJ (BX.new bO.out aF.out)
    obtain ⟨oV,oW,oX,oY,oZ,pA,pB,pC⟩:=bE.out.q8 0 1 2 3 4 5 6 7
    obtain ⟨pD,pE,pF,pG,pH,pI,pJ,pK⟩:=bE.out.q8 8 9 10 11 12 13 14 15
    have aH:=hJ (BX.new aL.out aF.out)
    obtain ⟨pL,pM,pN,pO,pP,pQ,pR,pS⟩:=aH.out.q8 0 1 2 3 4 5 6 7
    have aR:=hJ (PTq.new aX.out aF.out)
    have aV:=hJ (PTq.new bB.out aF.out)
    have aI:=hJ (PTq.new aM.out aF.out)
    go_wp2_with fail
    clear oV oW oX oY oZ pA pB pC pD pE pF pG pH pI pJ pK pL pM pN pO pP pQ pR pS
    refine (inboxv_any w278 aR.out aV.out aI.out aT.out aY.out aO.out).mono ?_
    rw [YX3.out]
    rintro e w353 ⟨rfl,hb⟩
    have pT:=hJ hb
    clear hb
    have aJ:=hJ (bt (bt (bt aB.out aS.out) aF.out) pT.out)
    go_wp2_with fail
    go_roundw
    case rel=>exact ⟨3,by go_num,aJ.out,.inr (.inr (.inr (⟨rfl,by rw [aC.out],by rw [aA.out]⟩)))⟩
    case measure=>simp [intOf] <;> omega
   subst hr
   have ez:(s3 == 0)=false:=by simp [hz]
   have aA:=hJ (show tr3=false by rw [←YR3.out,decide_eq_false hz]; rfl)
   clear hz
   have aD:=hJ (bt (bt aB.out aS.out) aF.out)
   go_wp2_with fail
   go_roundw
   case rel=>exact ⟨3,by go_num,aD.out,.inr (.inr (.inr (⟨rfl,by rw [aC.out],by rw [aA.out]⟩)))⟩
   case measure=>simp [intOf] <;> omega
  ·(try rw [show ((3:Nat):Int)=3 from rfl])
   rcases (show tw3=true∨(tw3=false∧tr3=true)∨(tw3=false∧tr3=false) by cases tw3 <;> cases tr3 <;> simp) with hw | ⟨hw,hr⟩ | ⟨hw,hr⟩
   ·subst hw
    have bP:=hJ (bt (bt aU.out aN.out) aB.out)
    go_wp2
    go_ret2
    exact ⟨by rw [bV.out] <;> rfl,bP.out⟩
   ·subst hw hr
    have bP:=hJ (bt (bt aU.out aN.out) aB.out)
    go_wp2
    go_ret2
    exact ⟨by rw [bV.out] <;> rfl,bP.out⟩
   ·subst hw hr
    have bP:=hJ (bt (bt aU.out aN.out) aB.out)
    go_wp2
    go_ret2
    exact ⟨by rw [bV.out] <;> rfl,bP.out⟩
theorem rtriangle_any (ax ay da bx by' db cx cy dc px py dp:Int) (w:World) (za:Pq ax ay da) (zb:Pq bx by' db) (zc:Pq cx cy dc) (zp:Pq px py dp) :
  Calls Tryz.prog 49 #[.agg #[.int .i64 ax,.int .i64 ay,.int .i64 da],.agg #[.int .i64 bx,.int .i64 by',.int .i64 db],.agg #[.int .i64 cx,.int .i64 cy,.int .i64 dc],.agg #[.int .i64 px,.int .i64 py,.int .i64 dp]] w fun e w'=>e=.returned (.int .i64 (trV ax ay da bx by' db cx cy dc px py dp))∧Below w.heap.size w w':=by
 have aG:=hJ za
 have aF:=hJ zb
 have aK:=hJ zc
 have aB:=hJ zp
 clear za zb zc zp
 obtain ⟨s,hs⟩:=nmz (cmpI (arN ax ay da bx by' db cx cy dc) 0)
 have cV:=hJ hs
 obtain ⟨s1,hs1⟩:=nmz (cmpI (arN ax ay da bx by' db px py dp) 0)
 have bG:=hJ hs1
 obtain ⟨s2,hs2⟩:=nmz (cmpI (arN bx by' db cx cy dc px py dp) 0)
 have cD:=hJ hs2
 obtain ⟨s3,hs3⟩:=nmz (cmpI (arN cx cy dc ax ay da px py dp) 0)
 have cT:=hJ hs3
 obtain ⟨b1,hb1⟩:=nmz (btV ax ay da bx by' db px py dp)
 have bH:=hJ hb1
 obtain ⟨b2,hb2⟩:=nmz (btV bx by' db cx cy dc px py dp)
 have cE:=hJ hb2
 obtain ⟨b3,hb3⟩:=nmz (btV cx cy dc ax ay da px py dp)
 have cU:=hJ hb3
 have aO:=hJ (show trV ax ay da bx by' db cx cy dc px py dp=trR s s1 s2 s3 b1 b2 b3 by
  rw [←hs,←hs1,←hs2,←hs3,←hb1,←hb2,←hb3,←trV_ref]
  rfl)
 clear hs hs1 hs2 hs3 hb1 hb2 hb3
 rcases (show b1=true∨(b1=false∧b2=true)∨(b1=false∧b2=false∧b3=true)∨(b1=false∧b2=false∧b3=false) by cases b1 <;> cases b2 <;> cases b3 <;> simp) with h1 | ⟨h1,h2⟩ | ⟨h1,h2,h3⟩ | ⟨h1,h2,h3⟩
 ·subst h1
  obtain ⟨x1,bA⟩:=nmz ((((w.alloc (.cells #[.int .i64 ax,.int .i64 ay,.int .i64 da] 32)).alloc (.cells #[.int .i64 bx,.int .i64 by',.int .i64 db] 32)).alloc (.cells #[.int .i64 cx,.int .i64 cy,.int .i64 dc] 32)).alloc (.cells #[.int .i64 px,.int .i64 py,.int .i64 dp] 32))
  have cW:=hJ (show Below w.heap.size w x1 by rw [←bA]; exact (((((Below.refl _ _).alloc (Nat.le_refl _) _).alloc (by simp only [World.size_alloc]; omega) _).alloc (by simp only [World.size_alloc]; omega) _).alloc (by simp only [World.size_alloc]; omega) _))
  have cF:=hJ (show BX 32 x1 w.heap.size #[.int .i64 ax,.int .i64 ay,.int .i64 da] by rw [←bA]; exact ((((BX.at rfl).alloc _).alloc _).alloc _))
  have cG:=hJ (show BX 32 x1 (w.heap.size+1) #[.int .i64 bx,.int .i64 by',.int .i64 db] by rw [←bA]; exact (((BX.at (by simp only [World.size_alloc])).alloc _).alloc _))
  have cH:=hJ (show BX 32 x1 (w.heap.size+3) #[.int .i64 px,.int .i64 py,.int .i64 dp] by rw [←bA]; exact (BX.at (by simp only [World.size_alloc])))
  have cX:=cF.out.cell 0 rfl
  have cY:=cF.out.cell 1 rfl
  have cZ:=cF.out.cell 2 rfl
  have dA:=cG.out.cell 0 rfl
  have dB:=cG.out.cell 1 rfl
  have dD:=cG.out.cell 2 rfl
  have dE:=cH.out.cell 0 rfl
  have dF:=cH.out.cell 1 rfl
  have dG:=cH.out.cell 2 rfl
  go_enter Tryz.func49,Tryz.ntmps49
  go_wp2_with fail
  clear bA cX cY cZ dA dB dD dE dF dG
  refine (rbetween_any ax ay da bx by' db px py dp x1 aG.out aF.out aB.out).mono ?_
  rw [bH.out]
  rintro e w11 ⟨rfl,hb⟩
  have dH:=hJ hb
  clear hb
  have dI:=hJ (bt cW.out dH.out)
  go_wp2
  go_ret
  exact ⟨by rw [aO.out]; rfl,dI.out⟩
 ·subst h1 h2
  obtain ⟨x12,aW⟩:=nmz ((((w.alloc (.cells #[.int .i64 ax,.int .i64 ay,.int .i64 da] 32)).alloc (.cells #[.int .i64 bx,.int .i64 by',.int .i64 db] 32)).alloc (.cells #[.int .i64 cx,.int .i64 cy,.int .i64 dc] 32)).alloc (.cells #[.int .i64 px,.int .i64 py,.int .i64 dp] 32))
  have dJ:=hJ (show Below w.heap.size w x12 by rw [←aW]; exact (((((Below.refl _ _).alloc (Nat.le_refl _) _).alloc (by simp only [World.size_alloc]; omega) _).alloc (by simp only [World.size_alloc]; omega) _).alloc (by simp only [World.size_alloc]; omega) _))
  have cI:=hJ (show BX 32 x12 w.heap.size #[.int .i64 ax,.int .i64 ay,.int .i64 da] by rw [←aW]; exact ((((BX.at rfl).alloc _).alloc _).alloc _))
  have bJ:=hJ (show BX 32 x12 (w.heap.size+1) #[.int .i64 bx,.int .i64 by',.int .i64 db] by rw [←aW]; exact (((BX.at (by simp only [World.size_alloc])).alloc _).alloc _))
  have dK:=hJ (show BX 32 x12 (w.heap.size+2) #[.int .i64 cx,.int .i64 cy,.int .i64 dc] by rw [←aW]; exact ((BX.at (by simp only [World.size_alloc])).alloc _))
  have bK:=hJ (show BX 32 x12 (w.heap.size+3) #[.int .i64 px,.int .i64 py,.int .i64 dp] by rw [←aW]; exact (BX.at (by simp only [World.size_alloc])))
  have dL:=cI.out.cell 0 rfl
  have dM:=cI.out.cell 1 rfl
  have dN:=cI.out.cell 2 rfl
  have dO:=bJ.out.cell 0 rfl
  have dP:=bJ.out.cell 1 rfl
  have dQ:=bJ.out.cell 2 rfl
  have dR:=bK.out.cell 0 rfl
  have dS:=bK.out.cell 1 rfl
  have dT:=bK.out.cell 2 rfl
  go_enter Tryz.func49,Tryz.ntmps49
  go_wp2_with fail
  clear aW dL dM dN dO dP dQ dR dS dT
  refine (rbetween_any ax ay da bx by' db px py dp x12 aG.out aF.out aB.out).mono ?_
  rw [bH.out]
  rintro e w22 ⟨rfl,hb⟩
  have bL:=hJ hb
  clear hb
  have cJ:=hJ (BX.new bJ.out bL.out)
  have dU:=cJ.out.cell 0 rfl
  have dW:=cJ.out.cell 1 rfl
  have dX:=cJ.out.cell 2 rfl
  have cK:=hJ (BX.new dK.out bL.out)
  have dY:=cK.out.cell 0 rfl
  have dZ:=cK.out.cell 1 rfl
  have eA:=cK.out.cell 2 rfl
  have cL:=hJ (BX.new bK.out bL.out)
  have eB:=cL.out.cell 0 rfl
  have eC:=cL.out.cell 1 rfl
  have eD:=cL.out.cell 2 rfl
  go_wp2_with fail
  clear dU dW dX dY dZ eA eB eC eD
  refine (rbetween_any bx by' db cx cy dc px py dp w22 aF.out aK.out aB.out).mono ?_
  rw [cE.out]
  rintro e w32 ⟨rfl,hb⟩
  have eE:=hJ hb
  clear hb
  have eF:=hJ (bt (bt dJ.out bL.out) eE.out)
  go_wp2
  go_ret
  exact ⟨by rw [aO.out]; rfl,eF.out⟩
 ·subst h1 h2 h3
  obtain ⟨x33,aX⟩:=nmz ((((w.alloc (.cells #[.int .i64 ax,.int .i64 ay,.int .i64 da] 32)).alloc (.cells #[.int .i64 bx,.int .i64 by',.int .i64 db] 32)).alloc (.cells #[.int .i64 cx,.int .i64 cy,.int .i64 dc] 32)).alloc (.cells #[.int .i64 px,.int .i64 py,.int .i64 dp] 32))
  have eG:=hJ (show Below w.heap.size w x33 by rw [←aX]; exact (((((Below.refl _ _).alloc (Nat.le_refl _) _).alloc (by simp only [World.size_alloc]; omega) _).alloc (by simp only [World.size_alloc]; omega) _).alloc (by simp only [World.size_alloc]; omega) _))
  have bM:=hJ (show BX 32 x33 w.heap.size #[.int .i64 ax,.int .i64 ay,.int .i64 da] by rw [←aX]; exact ((((BX.at rfl).alloc _).alloc _).alloc _))
  have bN:=hJ (show BX 32 x33 (w.heap.size+1) #[.int .i64 bx,.int .i64 by',.int .i64 db] by rw [←aX]; exact (((BX.at (by simp only [World.size_alloc])).alloc _).alloc _))
  have eH:=hJ (show BX 32 x33 (w.heap.size+2) #[.int .i64 cx,.int .i64 cy,.int .i64 dc] by rw [←aX]; exact ((BX.at (by simp only [World.size_alloc])).alloc _))
  have bO:=hJ (show BX 32 x33 (w.heap.size+3) #[.int .i64 px,.int .i64 py,.int .i64 dp] by rw [←aX]; exact (BX.at (by simp only [World.size_alloc])))
  have eI:=bM.out.cell 0 rfl
  have eJ:=bM.out.cell 1 rfl
  have eK:=bM.out.cell 2 rfl
  have eL:=bN.out.cell 0 rfl
  have eM:=bN.out.cell 1 rfl
  have eN:=bN.out.cell 2 rfl
  have eO:=bO.out.cell 0 rfl
  have eP:=bO.out.cell 1 rfl
  have eQ:=bO.out.cell 2 rfl
  go_enter Tryz.func49,Tryz.ntmps49
  go_wp2_with fail
  clear aX eI eJ eK eL eM eN eO eP eQ
  refine (rbetween_any ax ay da bx by' db px py dp x33 aG.out aF.out aB.out).mono ?_
  rw [bH.out]
  rintro e w43 ⟨rfl,hb⟩
  have bB:=hJ hb
  clear hb
  have cM:=hJ (BX.new bN.out bB.out)
  have eR:=cM.out.cell 0 rfl
  have eS:=cM.out.cell 1 rfl
  have eT:=cM.out.cell 2 rfl
  have bP:=hJ (BX.new eH.out bB.out)
  have eU:=bP.out.cell 0 rfl
  have eV:=bP.out.cell 1 rfl
  have eW:=bP.out.cell 2 rfl
  have bQ:=hJ (BX.new bO.out bB.out)
  have eX:=bQ.out.cell 0 rfl
  have eY:=bQ.out.cell 1 rfl
  have eZ:=bQ.out.cell 2 rfl
  go_wp2_with fail
  clear eR eS eT eU eV eW eX eY eZ
  refine (rbetween_any bx by' db cx cy dc px py dp w43 aF.out aK.out aB.out).mono ?_
  rw [cE.out]
  rintro e w53 ⟨rfl,hb⟩
  have bR:=hJ hb
  clear hb
  have cN:=hJ (BX.new bP.out bR.out)
  have fA:=cN.out.cell 0 rfl
  have fB:=cN.out.cell 1 rfl
  have fC:=cN.out.cell 2 rfl
  have cO:=hJ (bt bB.out bR.out)
  have cP:=hJ (BX.new bM.out cO.out)
  have fD:=cP.out.cell 0 rfl
  have fE:=cP.out.cell 1 rfl
  have fF:=cP.out.cell 2 rfl
  have cQ:=hJ (BX.new bQ.out bR.out)
  have fG:=cQ.out.cell 0 rfl
  have fH:=cQ.out.cell 1 rfl
  have fI:=cQ.out.cell 2 rfl
  go_wp2_with fail
  clear fA fB fC fD fE fF fG fH fI
  refine (rbetween_any cx cy dc ax ay da px py dp w53 aK.out aG.out aB.out).mono ?_
  rw [cU.out]
  rintro e w63 ⟨rfl,hb⟩
  have fJ:=hJ hb
  clear hb
  have fK:=hJ (bt (bt (bt eG.out bB.out) bR.out) fJ.out)
  go_wp2
  go_ret
  exact ⟨by rw [aO.out]; rfl,fK.out⟩
 ·subst h1 h2 h3
  obtain ⟨x64,aY⟩:=nmz ((((w.alloc (.cells #[.int .i64 ax,.int .i64 ay,.int .i64 da] 32)).alloc (.cells #[.int .i64 bx,.int .i64 by',.int .i64 db] 32)).alloc (.cells #[.int .i64 cx,.int .i64 cy,.int .i64 dc] 32)).alloc (.cells #[.int .i64 px,.int .i64 py,.int .i64 dp] 32))
  have bC:=hJ (show Below w.heap.size w x64 by rw [←aY]; exact (((((Below.refl _ _).alloc (Nat.le_refl _) _).alloc (by simp only [World.size_alloc]; omega) _).alloc (by simp only [World.size_alloc]; omega) _).alloc (by simp only [World.size_alloc]; omega) _))
  have bS:=hJ (show BX 32 x64 w.heap.size #[.int .i64 ax,.int .i64 ay,.int .i64 da] by rw [←aY]; exact ((((BX.at rfl).alloc _).alloc _).alloc _))
  have bT:=hJ (show BX 32 x64 (w.heap.size+1) #[.int .i64 bx,.int .i64 by',.int .i64 db] by rw [←aY]; exact (((BX.at (by simp only [World.size_alloc])).alloc _).alloc _))
  have fL:=hJ (show BX 32 x64 (w.heap.size+2) #[.int .i64 cx,.int .i64 cy,.int .i64 dc] by rw [←aY]; exact ((BX.at (by simp only [World.size_alloc])).alloc _))
  have bU:=hJ (show BX 32 x64 (w.heap.size+3) #[.int .i64 px,.int .i64 py,.int .i64 dp] by rw [←aY]; exact (BX.at (by simp only [World.size_alloc])))
  have fM:=bS.out.cell 0 rfl
  have fN:=bS.out.cell 1 rfl
  have fO:=bS.out.cell 2 rfl
  have fP:=bT.out.cell 0 rfl
  have fQ:=bT.out.cell 1 rfl
  have fR:=bT.out.cell 2 rfl
  have fS:=bU.out.cell 0 rfl
  have fT:=bU.out.cell 1 rfl
  have fU:=bU.out.cell 2 rfl
  go_enter Tryz.func49,Tryz.ntmps49
  go_wp2_with fail
  clear aY fM fN fO fP fQ fR fS fT fU
  refine (rbetween_any ax ay da bx by' db px py dp x64 aG.out aF.out aB.out).mono ?_
  rw [bH.out]
  rintro e w74 ⟨rfl,hb⟩
  have aM:=hJ hb
  clear hb
  have bV:=hJ (BX.new bT.out aM.out)
  have fV:=bV.out.cell 0 rfl
  have fW:=bV.out.cell 1 rfl
  have fX:=bV.out.cell 2 rfl
  have bW:=hJ (BX.new fL.out aM.out)
  have fY:=bW.out.cell 0 rfl
  have fZ:=bW.out.cell 1 rfl
  have gA:=bW.out.cell 2 rfl
  have bX:=hJ (BX.new bU.out aM.out)
  have gB:=bX.out.cell 0 rfl
  have gC:=bX.out.cell 1 rfl
  have gD:=bX.out.cell 2 rfl
  go_wp2_with fail
  clear fV fW fX fY fZ gA gB gC gD
  refine (rbetween_any bx by' db cx cy dc px py dp w74 aF.out aK.out aB.out).mono ?_
  rw [cE.out]
  rintro e w84 ⟨rfl,hb⟩
  have aN:=hJ hb
  clear hb
  have bY:=hJ (BX.new bW.out aN.out)
  have gE:=bY.out.cell 0 rfl
  have gF:=bY.out.cell 1 rfl
  have gG:=bY.out.cell 2 rfl
  have cO:=hJ (bt aM.out aN.out)
  have bZ:=hJ (BX.new bS.out cO.out)
  have gH:=bZ.out.cell 0 rfl
  have gI:=bZ.out.cell 1 rfl
  have gJ:=bZ.out.cell 2 rfl
  have aP:=hJ (BX.new bX.out aN.out)
  have gK:=aP.out.cell 0 rfl
  have gL:=aP.out.cell 1 rfl
  have gM:=aP.out.cell 2 rfl
  go_wp2_with fail
  clear gE gF gG gH gI gJ gK gL gM
  refine (rbetween_any cx cy dc ax ay da px py dp w84 aK.out aG.out aB.out).mono ?_
  rw [cU.out]
  rintro e w94 ⟨rfl,hb⟩
  have aJ:=hJ hb
  clear hb
  have aQ:=hJ (BX.new bZ.out aJ.out)
  have gN:=aQ.out.cell 0 rfl
  have gO:=aQ.out.cell 1 rfl
  have gP:=aQ.out.cell 2 rfl
  have gQ:=hJ (bt aN.out aJ.out)
  have aR:=hJ (BX.new bV.out gQ.out)
  have gR:=aR.out.cell 0 rfl
  have gS:=aR.out.cell 1 rfl
  have gT:=aR.out.cell 2 rfl
  have aZ:=hJ (BX.new bY.out aJ.out)
  have gU:=aZ.out.cell 0 rfl
  have gV:=aZ.out.cell 1 rfl
  have gW:=aZ.out.cell 2 rfl
  go_wp2_with fail
  clear gN gO gP gR gS gT gU gV gW
  refine (rside6_any ax ay da bx by' db cx cy dc w94 aG.out aF.out aK.out).mono ?_
  rw [cV.out]
  rintro e w104 ⟨rfl,hb⟩
  have aA:=hJ hb
  clear hb
  rcases (show s=0∨(¬ s=0∧¬ s1=s)∨(¬ s=0∧s1=s∧¬ s2=s)∨(¬ s=0∧s1=s∧s2=s∧¬ s3=s)∨(¬ s=0∧s1=s∧s2=s∧s3=s) by omega) with g0 | ⟨g0,g1⟩ | ⟨g0,g1,g2⟩ | ⟨g0,g1,g2,g3⟩ | ⟨g0,g1,g2,g3⟩
  ·have e0:(s == 0)=true:=by simp [g0]
   have gX:=hJ (bt (bt (bt (bt bC.out aM.out) aN.out) aJ.out) aA.out)
   go_wp2
   go_ret
   exact ⟨by rw [aO.out]; rw [show trR s s1 s2 s3 false false false=(-1) from (if_neg (by decide)).trans (if_pos g0)] <;> rfl,gX.out⟩
  ·have e0:(s == 0)=false:=by simp [g0]
   have e1:(s1 == s)=false:=by simp [g1]
   have d1:=decide_eq_false g1
   have aE:=hJ (BX.new aQ.out aA.out)
   have gY:=aE.out.cell 0 rfl
   have gZ:=aE.out.cell 1 rfl
   have hA:=aE.out.cell 2 rfl
   have aC:=hJ (BX.new aR.out aA.out)
   have hB:=aC.out.cell 0 rfl
   have hC:=aC.out.cell 1 rfl
   have hD:=aC.out.cell 2 rfl
   have aS:=hJ (bt aJ.out aA.out)
   have aD:=hJ (BX.new aP.out aS.out)
   have hE:=aD.out.cell 0 rfl
   have hF:=aD.out.cell 1 rfl
   have hG:=aD.out.cell 2 rfl
   go_wp2_with fail
   clear gY gZ hA hB hC hD hE hF hG
   refine (rside6_any ax ay da bx by' db px py dp w104 aG.out aF.out aB.out).mono ?_
   rw [bG.out]
   rintro e w114 ⟨rfl,hb⟩
   have hH:=hJ hb
   clear hb
   have hI:=hJ (bt (bt (bt (bt (bt bC.out aM.out) aN.out) aJ.out) aA.out) hH.out)
   go_wp2
   go_ret
   exact ⟨by rw [aO.out]; rw [show trR s s1 s2 s3 false false false=(-1) from (if_neg (by decide)).trans ((if_neg g0).trans (if_neg (by rw [d1]; simp)))] <;> rfl,hI.out⟩
  ·have e0:(s == 0)=false:=by simp [g0]
   have e1:(s1 == s)=true:=by simp [g1]
   have d1:=decide_eq_true g1
   have e2:(s2 == s)=false:=by simp [g2]
   have d2:=decide_eq_false g2
   have aE:=hJ (BX.new aQ.out aA.out)
   have hK:=aE.out.cell 0 rfl
   have hL:=aE.out.cell 1 rfl
   have hM:=aE.out.cell 2 rfl
   have aC:=hJ (BX.new aR.out aA.out)
   have hN:=aC.out.cell 0 rfl
   have hO:=aC.out.cell 1 rfl
   have hP:=aC.out.cell 2 rfl
   have aS:=hJ (bt aJ.out aA.out)
   have aD:=hJ (BX.new aP.out aS.out)
   have hQ:=aD.out.cell 0 rfl
   have hR:=aD.out.cell 1 rfl
   have hS:=aD.out.cell 2 rfl
   go_wp2_with fail
   clear hK hL hM hN hO hP hQ hR hS
   refine (rside6_any ax ay da bx by' db px py dp w104 aG.out aF.out aB.out).mono ?_
   rw [bG.out]
   rintro e w124 ⟨rfl,hb⟩
   have cA:=hJ hb
   clear hb
   have aL:=hJ (BX.new aC.out cA.out)
   have hT:=aL.out.cell 0 rfl
   have hU:=aL.out.cell 1 rfl
   have hV:=aL.out.cell 2 rfl
   have bD:=hJ (bt aA.out cA.out)
   have aH:=hJ (BX.new aZ.out bD.out)
   have hW:=aH.out.cell 0 rfl
   have hX:=aH.out.cell 1 rfl
   have hY:=aH.out.cell 2 rfl
   have aI:=hJ (BX.new aD.out cA.out)
   have hZ:=aI.out.cell 0 rfl
   have iA:=aI.out.cell 1 rfl
   have iB:=aI.out.cell 2 rfl
   go_wp2_with fail
   clear hT hU hV hW hX hY hZ iA iB
   refine (rside6_any bx by' db cx cy dc px py dp w124 aF.out aK.out aB.out).mono ?_
   rw [cD.out]
   rintro e w134 ⟨rfl,hb⟩
   have iC:=hJ hb
   clear hb
   have iD:=hJ (bt (bt (bt (bt (bt (bt bC.out aM.out) aN.out) aJ.out) aA.out) cA.out) iC.out)
   go_wp2
   go_ret
   exact ⟨by rw [aO.out]; rw [show trR s s1 s2 s3 false false false=(-1) from (if_neg (by decide)).trans ((if_neg g0).trans (if_neg (by rw [d1,d2]; simp)))] <;> rfl,iD.out⟩
  ·have e0:(s == 0)=false:=by simp [g0]
   have e1:(s1 == s)=true:=by simp [g1]
   have d1:=decide_eq_true g1
   have e2:(s2 == s)=true:=by simp [g2]
   have d2:=decide_eq_true g2
   have e3:(s3 == s)=false:=by simp [g3]
   have d3:=decide_eq_false g3
   have aE:=hJ (BX.new aQ.out aA.out)
   have iE:=aE.out.cell 0 rfl
   have iF:=aE.out.cell 1 rfl
   have iG:=aE.out.cell 2 rfl
   have aC:=hJ (BX.new aR.out aA.out)
   have iH:=aC.out.cell 0 rfl
   have iI:=aC.out.cell 1 rfl
   have iJ:=aC.out.cell 2 rfl
   have aS:=hJ (bt aJ.out aA.out)
   have aD:=hJ (BX.new aP.out aS.out)
   have iK:=aD.out.cell 0 rfl
   have iL:=aD.out.cell 1 rfl
   have iM:=aD.out.cell 2 rfl
   go_wp2_with fail
   clear iE iF iG iH iI iJ iK iL iM
   refine (rside6_any ax ay da bx by' db px py dp w104 aG.out aF.out aB.out).mono ?_
   rw [bG.out]
   rintro e w144 ⟨rfl,hb⟩
   have bE:=hJ hb
   clear hb
   have aL:=hJ (BX.new aC.out bE.out)
   have iN:=aL.out.cell 0 rfl
   have iO:=aL.out.cell 1 rfl
   have iP:=aL.out.cell 2 rfl
   have bD:=hJ (bt aA.out bE.out)
   have aH:=hJ (BX.new aZ.out bD.out)
   have iQ:=aH.out.cell 0 rfl
   have iR:=aH.out.cell 1 rfl
   have iS:=aH.out.cell 2 rfl
   have aI:=hJ (BX.new aD.out bE.out)
   have iT:=aI.out.cell 0 rfl
   have iU:=aI.out.cell 1 rfl
   have iV:=aI.out.cell 2 rfl
   go_wp2_with fail
   clear iN iO iP iQ iR iS iT iU iV
   refine (rside6_any bx by' db cx cy dc px py dp w144 aF.out aK.out aB.out).mono ?_
   rw [cD.out]
   rintro e w154 ⟨rfl,hb⟩
   have cB:=hJ hb
   clear hb
   have aT:=hJ (BX.new aH.out cB.out)
   have iW:=aT.out.cell 0 rfl
   have iX:=aT.out.cell 1 rfl
   have iY:=aT.out.cell 2 rfl
   have cR:=hJ (bt bE.out cB.out)
   have aU:=hJ (BX.new aE.out cR.out)
   have iZ:=aU.out.cell 0 rfl
   have jA:=aU.out.cell 1 rfl
   have jB:=aU.out.cell 2 rfl
   have aV:=hJ (BX.new aI.out cB.out)
   have jC:=aV.out.cell 0 rfl
   have jD:=aV.out.cell 1 rfl
   have jE:=aV.out.cell 2 rfl
   go_wp2_with fail
   clear iW iX iY iZ jA jB jC jD jE
   refine (rside6_any cx cy dc ax ay da px py dp w154 aK.out aG.out aB.out).mono ?_
   rw [cT.out]
   rintro e w164 ⟨rfl,hb⟩
   have jF:=hJ hb
   clear hb
   have cS:=hJ (bt (bt (bt (bt (bt (bt (bt bC.out aM.out) aN.out) aJ.out) aA.out) bE.out) cB.out) jF.out)
   go_wp2
   go_ret
   exact ⟨by rw [aO.out]; rw [show trR s s1 s2 s3 false false false=(-1) from (if_neg (by decide)).trans ((if_neg g0).trans (if_neg (by rw [d1,d2,d3]; simp)))] <;> rfl,cS.out⟩
  ·have e0:(s == 0)=false:=by simp [g0]
   have e1:(s1 == s)=true:=by simp [g1]
   have d1:=decide_eq_true g1
   have e2:(s2 == s)=true:=by simp [g2]
   have d2:=decide_eq_true g2
   have e3:(s3 == s)=true:=by simp [g3]
   have d3:=decide_eq_true g3
   have aE:=hJ (BX.new aQ.out aA.out)
   have jG:=aE.out.cell 0 rfl
   have jH:=aE.out.cell 1 rfl
   have jI:=aE.out.cell 2 rfl
   have aC:=hJ (BX.new aR.out aA.out)
   have jJ:=aC.out.cell 0 rfl
   have jK:=aC.out.cell 1 rfl
   have jL:=aC.out.cell 2 rfl
   have aS:=hJ (bt aJ.out aA.out)
   have aD:=hJ (BX.new aP.out aS.out)
   have jM:=aD.out.cell 0 rfl
   have jN:=aD.out.cell 1 rfl
   have jO:=aD.out.cell 2 rfl
   go_wp2_with fail
   clear jG jH jI jJ jK jL jM jN jO
   refine (rside6_any ax ay da bx by' db px py dp w104 aG.out aF.out aB.out).mono ?_
   rw [bG.out]
   rintro e w174 ⟨rfl,hb⟩
   have bF:=hJ hb
   clear hb
   have aL:=hJ (BX.new aC.out bF.out)
   have jP:=aL.out.cell 0 rfl
   have jQ:=aL.out.cell 1 rfl
   have jR:=aL.out.cell 2 rfl
   have bD:=hJ (bt aA.out bF.out)
   have aH:=hJ (BX.new aZ.out bD.out)
   have jS:=aH.out.cell 0 rfl
   have jT:=aH.out.cell 1 rfl
   have jU:=aH.out.cell 2 rfl
   have aI:=hJ (BX.new aD.out bF.out)
   have jV:=aI.out.cell 0 rfl
   have jW:=aI.out.cell 1 rfl
   have jX:=aI.out.cell 2 rfl
   go_wp2_with fail
   clear jP jQ jR jS jT jU jV jW jX
   refine (rside6_any bx by' db cx cy dc px py dp w174 aF.out aK.out aB.out).mono ?_
   rw [cD.out]
   rintro e w184 ⟨rfl,hb⟩
   have cC:=hJ hb
   clear hb
   have aT:=hJ (BX.new aH.out cC.out)
   have jY:=aT.out.cell 0 rfl
   have jZ:=aT.out.cell 1 rfl
   have kA:=aT.out.cell 2 rfl
   have cR:=hJ (bt bF.out cC.out)
   have aU:=hJ (BX.new aE.out cR.out)
   have kB:=aU.out.cell 0 rfl
   have kC:=aU.out.cell 1 rfl
   have kD:=aU.out.cell 2 rfl
   have aV:=hJ (BX.new aI.out cC.out)
   have kE:=aV.out.cell 0 rfl
   have kF:=aV.out.cell 1 rfl
   have kG:=aV.out.cell 2 rfl
   go_wp2_with fail
   clear jY jZ kA kB kC kD kE kF kG
   refine (rside6_any cx cy dc ax ay da px py dp w184 aK.out aG.out aB.out).mono ?_
   rw [cT.out]
   rintro e w194 ⟨rfl,hb⟩
   have kH:=hJ hb
   clear hb
   have cS:=hJ (bt (bt (bt (bt (bt (bt (bt bC.out aM.out) aN.out) aJ.out) aA.out) bF.out) cC.out) kH.out)
   go_wp2
   go_ret
   exact ⟨by rw [aO.out]; rw [show trR s s1 s2 s3 false false false=1 from (if_neg (by decide)).trans ((if_neg g0).trans (if_pos (by rw [d1,d2,d3]; rfl)))] <;> rfl,cS.out⟩
end Go.Proofs.YteggneaefggbmaaGreat
