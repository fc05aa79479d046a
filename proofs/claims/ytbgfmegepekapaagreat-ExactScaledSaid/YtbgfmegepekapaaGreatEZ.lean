/- Contracts: the reference's sides and areas. Conditions: as each statement has them. -/
import Derived.Test.YtbgfmegepekapaaGreatEV
import Derived.Test.YtbgfmegepekapaaGreatEW
namespace Go.Proofs.YtbgfmegepekapaaGreat
set_option maxRecDepth 100000
set_option maxHeartbeats 12800000
open Go.RowKit
attribute [local go_sem ↓] Go.wp_at_zero Go.wp_at_succ
set_option linter.unusedVariables false
set_option linter.unusedSimpArgs false
theorem pq_nk {X Y D:Int} (h:Pq X Y D):(Nk 19200 X∧Nk 19200 Y)∧Nk 576 D:=⟨⟨h.2.1,h.2.2⟩,by have:=h.1; unfold Nk; omega⟩
theorem rside5_any (ax ay da bx by' db cx cy dc:Int) (w:World) (ha:Pq ax ay da) (hb0:Pq bx by' db) (hc0:Pq cx cy dc) :
  Calls Tryz.prog 81 #[.agg #[.int .i64 ax,.int .i64 ay,.int .i64 da],.agg #[.int .i64 bx,.int .i64 by',.int .i64 db],.agg #[.int .i64 cx,.int .i64 cy,.int .i64 dc]] w fun e w'=>e=.returned (.int .i64 (cmpI (arN ax ay da bx by' db cx cy dc) 0))∧Below w.heap.size w w':=by
 have HA:=hJ (pq_nk ha)
 have HB:=hJ (pq_nk hb0)
 have HC:=hJ (pq_nk hc0)
 clear ha hb0 hc0
 obtain ⟨u1,hu1⟩:=nmz (bx*da - ax*db)
 have Ku1:=hJ (show Nk 22118400 u1 by rw [←hu1]; exact (nk_sub (nk_mul HB.out.1.1 HA.out.2) (nk_mul HA.out.1.1 HB.out.2)))
 have Eu1:=hJ hu1
 have Wu1:=hJ (show IntKind.i64.wrap (bx*da - ax*db)=u1 by rw [hu1]; exact i6_wrap (nk_i6 Ku1.out (by decide)))
 clear hu1
 obtain ⟨u2,hu2⟩:=nmz (cy*da - ay*dc)
 have Ku2:=hJ (show Nk 22118400 u2 by rw [←hu2]; exact (nk_sub (nk_mul HC.out.1.2 HA.out.2) (nk_mul HA.out.1.2 HC.out.2)))
 have Eu2:=hJ hu2
 have Wu2:=hJ (show IntKind.i64.wrap (cy*da - ay*dc)=u2 by rw [hu2]; exact i6_wrap (nk_i6 Ku2.out (by decide)))
 clear hu2
 obtain ⟨u3,hu3⟩:=nmz (by'*da - ay*db)
 have Ku3:=hJ (show Nk 22118400 u3 by rw [←hu3]; exact (nk_sub (nk_mul HB.out.1.2 HA.out.2) (nk_mul HA.out.1.2 HB.out.2)))
 have Eu3:=hJ hu3
 have Wu3:=hJ (show IntKind.i64.wrap (by'*da - ay*db)=u3 by rw [hu3]; exact i6_wrap (nk_i6 Ku3.out (by decide)))
 clear hu3
 obtain ⟨u4,hu4⟩:=nmz (cx*da - ax*dc)
 have Ku4:=hJ (show Nk 22118400 u4 by rw [←hu4]; exact (nk_sub (nk_mul HC.out.1.1 HA.out.2) (nk_mul HA.out.1.1 HC.out.2)))
 have Eu4:=hJ hu4
 have Wu4:=hJ (show IntKind.i64.wrap (cx*da - ax*dc)=u4 by rw [hu4]; exact i6_wrap (nk_i6 Ku4.out (by decide)))
 clear hu4
 obtain ⟨N,hN⟩:=nmz (u1*u2 - u3*u4)
 have KN:=hJ (show Nk 978447237120000 N by rw [←hN]; exact (nk_sub (nk_mul Ku1.out Ku2.out) (nk_mul Ku3.out Ku4.out)))
 have WN:=hJ (show IntKind.i64.wrap (u1*u2 - u3*u4)=N by rw [hN]; exact i6_wrap (nk_i6 KN.out (by decide)))
 have EN:=hJ (show arN ax ay da bx by' db cx cy dc=N by rw [←hN,←Eu1.out,←Eu2.out,←Eu3.out,←Eu4.out]; rfl)
 clear hN
 obtain ⟨x1,aB⟩:=nmz (((w.alloc (.cells #[.int .i64 ax,.int .i64 ay,.int .i64 da] 32)).alloc (.cells #[.int .i64 bx,.int .i64 by',.int .i64 db] 32)).alloc (.cells #[.int .i64 cx,.int .i64 cy,.int .i64 dc] 32))
 have aF:=hJ (show Below w.heap.size w x1 by rw [←aB]; exact ((((Below.refl _ _).alloc (Nat.le_refl _) _).alloc (by simp only [World.size_alloc]; omega) _).alloc (by simp only [World.size_alloc]; omega) _))
 have aA:=hJ (show BX 32 x1 w.heap.size #[.int .i64 ax,.int .i64 ay,.int .i64 da] by rw [←aB]; exact (((BX.at rfl).alloc _).alloc _))
 have aC:=hJ (show BX 32 x1 (w.heap.size+1) #[.int .i64 bx,.int .i64 by',.int .i64 db] by rw [←aB]; exact ((BX.at (by simp only [World.size_alloc])).alloc _))
 have aD:=hJ (show BX 32 x1 (w.heap.size+2) #[.int .i64 cx,.int .i64 cy,.int .i64 dc] by rw [←aB]; exact (BX.at (by simp only [World.size_alloc])))
 have aG:=aC.out.cell 0 rfl
 have aH:=aA.out.cell 2 rfl
 have aI:IntKind.i64.wrap (bx*da)=bx*da:=i6_wrap (nk_i6 (nk_mul HB.out.1.1 HA.out.2) (by decide))
 have aJ:=aA.out.cell 0 rfl
 have aK:=aC.out.cell 2 rfl
 have aL:IntKind.i64.wrap (ax*db)=ax*db:=i6_wrap (nk_i6 (nk_mul HA.out.1.1 HB.out.2) (by decide))
 have aM:=Wu1.out
 have aN:=aC.out.cell 1 rfl
 have aO:=aA.out.cell 2 rfl
 have aR:IntKind.i64.wrap (by'*da)=by'*da:=i6_wrap (nk_i6 (nk_mul HB.out.1.2 HA.out.2) (by decide))
 have aS:=aA.out.cell 1 rfl
 have aT:=aC.out.cell 2 rfl
 have aU:IntKind.i64.wrap (ay*db)=ay*db:=i6_wrap (nk_i6 (nk_mul HA.out.1.2 HB.out.2) (by decide))
 have aV:=Wu3.out
 have aW:=aD.out.cell 0 rfl
 have aX:=aA.out.cell 2 rfl
 have aY:IntKind.i64.wrap (cx*da)=cx*da:=i6_wrap (nk_i6 (nk_mul HC.out.1.1 HA.out.2) (by decide))
 have aZ:=aA.out.cell 0 rfl
 have bA:=aD.out.cell 2 rfl
 have bB:IntKind.i64.wrap (ax*dc)=ax*dc:=i6_wrap (nk_i6 (nk_mul HA.out.1.1 HC.out.2) (by decide))
 have bC:=Wu4.out
 have bD:=aD.out.cell 1 rfl
 have bE:=aA.out.cell 2 rfl
 have bF:IntKind.i64.wrap (cy*da)=cy*da:=i6_wrap (nk_i6 (nk_mul HC.out.1.2 HA.out.2) (by decide))
 have bG:=aA.out.cell 1 rfl
 have bH:=aD.out.cell 2 rfl
 have bJ:IntKind.i64.wrap (ay*dc)=ay*dc:=i6_wrap (nk_i6 (nk_mul HA.out.1.2 HC.out.2) (by decide))
 have bK:=Wu2.out
 have bL:IntKind.i64.wrap (u1*u2)=u1*u2:=i6_wrap (nk_i6 (nk_mul Ku1.out Ku2.out) (by decide))
 have bM:IntKind.i64.wrap (u3*u4)=u3*u4:=i6_wrap (nk_i6 (nk_mul Ku3.out Ku4.out) (by decide))
 have bN:=WN.out
 go_enter Tryz.func81,Tryz.ntmps81
 go_wp2_with fail
 clear aB aG aH aI aJ aK aL aM aN aO aR aS aT aU aV aW aX aY aZ bA bB bC bD bE bF bG bH bJ bK bL bM bN
 refine (rsign_any N x1).mono ?_
 rintro e w18 ⟨rfl,rfl⟩
 go_wp2
 go_ret
 exact ⟨by rw [EN.out] <;> rfl,aF.out⟩
theorem cmY_less {a b:Int} (h:a < b):cmpI a b = -1:=by unfold cmpI; rw [if_pos h]
theorem cmY_same {a b:Int} (h:a=b):cmpI a b=0:=by unfold cmpI; rw [if_neg (by omega),if_neg (by omega)]
theorem cmY_more {a b:Int} (h:b < a):cmpI a b=1:=by unfold cmpI; rw [if_neg (by omega),if_pos h]
theorem low_mkY {p q x d:Int} (h:Low p q) (hd:0 < d) (e:p*d=x*q):p=mkP x d∧q=mkQ x d:=by
 obtain ⟨hl,he⟩:=mk_low x d hd
 refine low_eq h hl ?_
 refine Int.eq_of_mul_eq_mul_right (show d≠0 by omega) ?_
 rw [Int.mul_right_comm,e,Int.mul_right_comm,←he,Int.mul_right_comm]
theorem vl_frY {p q x d:Int} (h:Vl 64 p q x d):Fr p q:=⟨h.1,by rw [lim_two]; exact B2.le h.2.1 (by decide),by rw [lim_two]; exact B2.le h.2.2.1 (by decide)⟩
theorem mk_le (x d:Int) (hd:0 < d):(mkP x d).natAbs≤x.natAbs∧(mkQ x d).natAbs≤d.natAbs:=by
 unfold mkP mkQ
 rw [if_neg (by omega),if_neg (by omega)]
 exact ⟨Int.natAbs_ediv_le_natAbs _ _,Int.natAbs_ediv_le_natAbs _ _⟩
theorem b2_64 {x:Int} (h:x.natAbs≤19200):x.natAbs < B2 64:=Nat.lt_of_le_of_lt h (by unfold B2; decide)
theorem vl_mk {X D:Int} (hx:Nk 19200 X) (hd:0 < D∧D≤576):Vl 64 (mkP X D) (mkQ X D) X D:=by
 obtain ⟨h1,h2⟩:=mk_low X D hd.1
 obtain ⟨m1,m2⟩:=mk_le X D hd.1
 unfold Nk at hx
 exact ⟨h1,b2_64 (by omega),b2_64 (by omega),by omega,h2⟩
theorem dd_pos {ax ay da bx by' db cx cy dc:Int} (ha:Pq ax ay da) (hb0:Pq bx by' db) (hc0:Pq cx cy dc):0 < (da*da*db*dc):=Int.mul_pos (Int.mul_pos (Int.mul_pos ha.1.1 ha.1.1) hb0.1.1) hc0.1.1
theorem dd_nk {ax ay da bx by' db cx cy dc:Int} (ha:Pq ax ay da) (hb0:Pq bx by' db) (hc0:Pq cx cy dc):Nk 110075314176 (da*da*db*dc):=nk_mul (nk_mul (nk_mul (pq_nk ha).2 (pq_nk ha).2) (pq_nk hb0).2) (pq_nk hc0).2
theorem arq_nk {ax ay da bx by' db cx cy dc:Int} (ha:Pq ax ay da) (hb0:Pq bx by' db) (hc0:Pq cx cy dc):Nk 978447237120000 (arN ax ay da bx by' db cx cy dc):=by
 obtain ⟨⟨a1,a2⟩,a3⟩:=pq_nk ha
 obtain ⟨⟨b1,b2⟩,b3⟩:=pq_nk hb0
 obtain ⟨⟨c1,c2⟩,c3⟩:=pq_nk hc0
 unfold arN
 exact nk_sub (nk_mul (nk_sub (nk_mul b1 a3) (nk_mul a1 b3)) (nk_sub (nk_mul c2 a3) (nk_mul a2 c3))) (nk_mul (nk_sub (nk_mul b2 a3) (nk_mul a2 b3)) (nk_sub (nk_mul c1 a3) (nk_mul a1 c3)))
/-- The numbers of the area of three points of the law's. -/
theorem ar_fit {ax ay da bx by' db cx cy dc:Int} (ha:Pq ax ay da) (hb0:Pq bx by' db) (hc0:Pq cx cy dc):(Low (mkP (arN ax ay da bx by' db cx cy dc) (da*da*db*dc)) (mkQ (arN ax ay da bx by' db cx cy dc) (da*da*db*dc))∧mkP (arN ax ay da bx by' db cx cy dc) (da*da*db*dc)*(da*da*db*dc)=(arN ax ay da bx by' db cx cy dc)*mkQ (arN ax ay da bx by' db cx cy dc) (da*da*db*dc))∧(I6 (mkP (arN ax ay da bx by' db cx cy dc) (da*da*db*dc))∧I6 (mkQ (arN ax ay da bx by' db cx cy dc) (da*da*db*dc))):=by
 have hM:=dd_pos ha hb0 hc0
 have k2:=dd_nk ha hb0 hc0
 have k1:=arq_nk ha hb0 hc0
 obtain ⟨N,hN⟩:=nmz ((arN ax ay da bx by' db cx cy dc))
 obtain ⟨M,hMM⟩:=nmz ((da*da*db*dc))
 rw [hMM] at hM k2 ⊢
 rw [hN] at k1 ⊢
 clear hN hMM
 obtain ⟨m1,m2⟩:=mk_le N M hM
 refine ⟨mk_low N M hM,?_⟩
 unfold Nk at k1 k2
 unfold I6
 omega
theorem cm_wrap (a:Int):IntKind.i64.wrap (-cmpI a 0) = -cmpI a 0:=by
 rcases Int.lt_trichotomy a 0 with h | h | h
 ·rw [cmY_less h]; decide
 ·rw [cmY_same h]; decide
 ·rw [cmY_more h]; decide
theorem ar_sgn {ax ay da bx by' db cx cy dc:Int} (ha:Pq ax ay da) (hb0:Pq bx by' db) (hc0:Pq cx cy dc):cmpI (mkP (arN ax ay da bx by' db cx cy dc) (da*da*db*dc)) 0=cmpI (arN ax ay da bx by' db cx cy dc) 0:=by
 obtain ⟨⟨l1,e1⟩,_⟩:=ar_fit ha hb0 hc0
 exact sgn_small l1.1 (dd_pos ha hb0 hc0) e1
theorem i6_lim {x:Int} (h:I6 x):x.natAbs < lim:=i64_lim (x:=x) (WalkArith.wf_i64 (by unfold I6 at h; omega))
theorem ar_fr {ax ay da bx by' db cx cy dc:Int} (ha:Pq ax ay da) (hb0:Pq bx by' db) (hc0:Pq cx cy dc):Fr (mkP (arN ax ay da bx by' db cx cy dc) (da*da*db*dc)) (mkQ (arN ax ay da bx by' db cx cy dc) (da*da*db*dc)):=⟨(ar_fit ha hb0 hc0).1.1,i6_lim (ar_fit ha hb0 hc0).2.1,i6_lim (ar_fit ha hb0 hc0).2.2⟩
/-- A fraction lies in four values. -/
def PFv (w:World) (a b c d:Value) (p q:Int):Prop:=∃ s A n c' t B m d',a=.bool s∧b=.slice A n c'∧c=.bool t∧d=.slice B m d'∧PF w s A n c' t B m d' p q
theorem PFv.new {w w':World} {a b c d:Value} {p q:Int} (h:PFv w a b c d p q) (hb:Below w.heap.size w w'):PFv w' a b c d p q:=by
 obtain ⟨s,A,n,c',t,B,m,d',e0,e1,e2,e3,hp⟩:=h
 exact ⟨s,A,n,c',t,B,m,d',e0,e1,e2,e3,PF.new hp hb⟩
/-- A point lies in eight values. -/
def PTq (w:World) (a b c d a' b' c' d':Value) (x y z:Int):Prop:=PFv w a b c d (mkP x z) (mkQ x z)∧PFv w a' b' c' d' (mkP y z) (mkQ y z)
theorem PTq.new {w w':World} {a b c d a' b' c' d':Value} {x y z:Int} (h:PTq w a b c d a' b' c' d' x y z) (hb:Below w.heap.size w w'):PTq w' a b c d a' b' c' d' x y z:=⟨h.1.new hb,h.2.new hb⟩
/-- One of four. -/
def at4 {α:Type} (a b c d:α) (j:Nat):α:=match j with
 | 0=>a
 | 1=>b
 | 2=>c
 | _=>d
def at8 {α:Type} (a b c d e f g h:α) (j:Nat):α:=match j with
 | 0=>a
 | 1=>b
 | 2=>c
 | 3=>d
 | 4=>e
 | 5=>f
 | 6=>g
 | _=>h
/-- The cells of a row of four points of the reference. -/
def rowR (xs ys ds:Nat→Int):List Value:=[.int .i64 (xs 0),.int .i64 (ys 0),.int .i64 (ds 0),.int .i64 (xs 1),.int .i64 (ys 1),.int .i64 (ds 1),.int .i64 (xs 2),.int .i64 (ys 2),.int .i64 (ds 2),.int .i64 (xs 3),.int .i64 (ys 3),.int .i64 (ds 3)]
/-- The cells of a row of four points of the program. -/
def rowQ (U:Nat→Nat→Value):List Value:=[U 0 0,U 0 1,U 0 2,U 0 3,U 0 4,U 0 5,U 0 6,U 0 7,U 1 0,U 1 1,U 1 2,U 1 3,U 1 4,U 1 5,U 1 6,U 1 7,U 2 0,U 2 1,U 2 2,U 2 3,U 2 4,U 2 5,U 2 6,U 2 7,U 3 0,U 3 1,U 3 2,U 3 3,U 3 4,U 3 5,U 3 6,U 3 7]
theorem rowQ_get (U:Nat→Nat→Value) {j:Nat} (hj:j < 4):(rowQ U)[j*8]?=some (U j 0)∧(rowQ U)[j*8+1]?=some (U j 1)∧(rowQ U)[j*8+2]?=some (U j 2)∧(rowQ U)[j*8+3]?=some (U j 3)∧(rowQ U)[j*8+4]?=some (U j 4)∧(rowQ U)[j*8+5]?=some (U j 5)∧(rowQ U)[j*8+6]?=some (U j 6)∧(rowQ U)[j*8+7]?=some (U j 7):=by
 have hcs:j=0∨j=1∨j=2∨j=3:=by omega
 rcases hcs with rfl | rfl | rfl | rfl <;> exact ⟨rfl,rfl,rfl,rfl,rfl,rfl,rfl,rfl⟩
/-- Four points lie in their values. -/
def LF (w:World) (xs ys ds:Nat→Int) (U:Nat→Nat→Value):Prop:=∀ j,j < 4→PTq w (U j 0) (U j 1) (U j 2) (U j 3) (U j 4) (U j 5) (U j 6) (U j 7) (xs j) (ys j) (ds j)
theorem LF.new {w w':World} {xs ys ds:Nat→Int} {U:Nat→Nat→Value} (h:LF w xs ys ds U) (hb:Below w.heap.size w w'):LF w' xs ys ds U:=fun j hj=>(h j hj).new hb
/-- A point of numbers that are not too great. -/
def Pz (X Y D:Int):Prop:=(0 < D∧Nk 1152921504606846976 D)∧Nk 1152921504606846976 X∧Nk 1152921504606846976 Y
theorem pq_pz {X Y D:Int} (h:Pq X Y D):Pz X Y D:=by
 obtain ⟨⟨h1,h2⟩,h3,h4⟩:=h
 unfold Pz Nk
 omega
theorem b2_64z {x:Int} (h:x.natAbs≤1152921504606846976):x.natAbs < B2 64:=Nat.lt_of_le_of_lt h (by unfold B2; decide)
theorem vl_mkz {X D:Int} (hx:Nk 1152921504606846976 X) (hd:0 < D∧Nk 1152921504606846976 D):Vl 64 (mkP X D) (mkQ X D) X D:=by
 obtain ⟨h1,h2⟩:=mk_low X D hd.1
 obtain ⟨m1,m2⟩:=mk_le X D hd.1
 have hd2:=hd.2
 unfold Nk at hx hd2
 exact ⟨h1,b2_64z (by omega),b2_64z (by omega),by omega,h2⟩
theorem pz_vl {X Y D:Int} (h:Pz X Y D):Vl 64 (mkP X D) (mkQ X D) X D∧Vl 64 (mkP Y D) (mkQ Y D) Y D:=⟨vl_mkz h.2.1 h.1,vl_mkz h.2.2 h.1⟩
theorem sidez_any (ax ay da bx by' db cx cy dc:Int) (s0:Bool) (A0:Option Addr) (n0 c0:Nat) (t0:Bool) (B0:Option Addr) (m0 d0:Nat) (s1:Bool) (A1:Option Addr) (n1 c1:Nat) (t1:Bool) (B1:Option Addr) (m1 d1:Nat) (s2:Bool) (A2:Option Addr) (n2 c2:Nat) (t2:Bool) (B2:Option Addr) (m2 d2:Nat) (s3:Bool) (A3:Option Addr) (n3 c3:Nat) (t3:Bool) (B3:Option Addr) (m3 d3:Nat) (s4:Bool) (A4:Option Addr) (n4 c4:Nat) (t4:Bool) (B4:Option Addr) (m4 d4:Nat) (s5:Bool) (A5:Option Addr) (n5 c5:Nat) (t5:Bool) (B5:Option Addr) (m5 d5:Nat) (w:World) (h0:PF w s0 A0 n0 c0 t0 B0 m0 d0 (mkP ax da) (mkQ ax da)) (h1:PF w s1 A1 n1 c1 t1 B1 m1 d1 (mkP ay da) (mkQ ay da)) (h2:PF w s2 A2 n2 c2 t2 B2 m2 d2 (mkP bx db) (mkQ bx db)) (h3:PF w s3 A3 n3 c3 t3 B3 m3 d3 (mkP by' db) (mkQ by' db)) (h4:PF w s4 A4 n4 c4 t4 B4 m4 d4 (mkP cx dc) (mkQ cx dc)) (h5:PF w s5 A5 n5 c5 t5 B5 m5 d5 (mkP cy dc) (mkQ cy dc)) (ha:Pz ax ay da) (hb0:Pz bx by' db) (hc0:Pz cx cy dc) :
  Calls Tryz.prog 25 #[.agg #[.bool s0,.slice A0 n0 c0,.bool t0,.slice B0 m0 d0,.bool s1,.slice A1 n1 c1,.bool t1,.slice B1 m1 d1],.agg #[.bool s2,.slice A2 n2 c2,.bool t2,.slice B2 m2 d2,.bool s3,.slice A3 n3 c3,.bool t3,.slice B3 m3 d3],.agg #[.bool s4,.slice A4 n4 c4,.bool t4,.slice B4 m4 d4,.bool s5,.slice A5 n5 c5,.bool t5,.slice B5 m5 d5]] w fun e w'=>e=.returned (.tuple #[.int .i64 (cmpI (arN ax ay da bx by' db cx cy dc) 0),.int .i64 0])∧Below w.heap.size w w':=by
 have v0:=pz_vl ha
 have v1:=pz_vl hb0
 have v2:=pz_vl hc0
 obtain ⟨P0,hP0⟩:=nmz (adP (mkP bx db) (mkQ bx db) (-(mkP ax da)) (mkQ ax da))
 obtain ⟨Q0,hQ0⟩:=nmz (adQ (mkP bx db) (mkQ bx db) (-(mkP ax da)) (mkQ ax da))
 obtain ⟨C0,hC0⟩:=nmz (adC (mkP bx db) (mkQ bx db) (-(mkP ax da)) (mkQ ax da))
 obtain ⟨P1,hP1⟩:=nmz (adP (mkP cy dc) (mkQ cy dc) (-(mkP ay da)) (mkQ ay da))
 obtain ⟨Q1,hQ1⟩:=nmz (adQ (mkP cy dc) (mkQ cy dc) (-(mkP ay da)) (mkQ ay da))
 obtain ⟨C1,hC1⟩:=nmz (adC (mkP cy dc) (mkQ cy dc) (-(mkP ay da)) (mkQ ay da))
 obtain ⟨P2,hP2⟩:=nmz (muP P0 Q0 P1 Q1)
 obtain ⟨Q2,hQ2⟩:=nmz (muQ P0 Q0 P1 Q1)
 obtain ⟨C2,hC2⟩:=nmz (muC P0 Q0 P1 Q1)
 obtain ⟨P3,hP3⟩:=nmz (adP (mkP by' db) (mkQ by' db) (-(mkP ay da)) (mkQ ay da))
 obtain ⟨Q3,hQ3⟩:=nmz (adQ (mkP by' db) (mkQ by' db) (-(mkP ay da)) (mkQ ay da))
 obtain ⟨C3,hC3⟩:=nmz (adC (mkP by' db) (mkQ by' db) (-(mkP ay da)) (mkQ ay da))
 obtain ⟨P4,hP4⟩:=nmz (adP (mkP cx dc) (mkQ cx dc) (-(mkP ax da)) (mkQ ax da))
 obtain ⟨Q4,hQ4⟩:=nmz (adQ (mkP cx dc) (mkQ cx dc) (-(mkP ax da)) (mkQ ax da))
 obtain ⟨C4,hC4⟩:=nmz (adC (mkP cx dc) (mkQ cx dc) (-(mkP ax da)) (mkQ ax da))
 obtain ⟨P5,hP5⟩:=nmz (muP P3 Q3 P4 Q4)
 obtain ⟨Q5,hQ5⟩:=nmz (muQ P3 Q3 P4 Q4)
 obtain ⟨C5,hC5⟩:=nmz (muC P3 Q3 P4 Q4)
 obtain ⟨P6,hP6⟩:=nmz (adP P2 Q2 (-P5) Q5)
 obtain ⟨Q6,hQ6⟩:=nmz (adQ P2 Q2 (-P5) Q5)
 obtain ⟨C6,hC6⟩:=nmz (adC P2 Q2 (-P5) Q5)
 have g:=side_val (ax:=ax) (ay:=ay) (bx:=bx) (by':=by') (cx:=cx) (cy:=cy) ⟨ha.1.1,hb0.1.1,hc0.1.1⟩ v0.1 v0.2 v1.1 v1.2 v2.1 v2.2 ⟨hP0,hQ0,hC0⟩ ⟨hP1,hQ1,hC1⟩ ⟨hP2,hQ2,hC2⟩ ⟨hP3,hQ3,hC3⟩ ⟨hP4,hQ4,hC4⟩ ⟨hP5,hQ5,hC5⟩ ⟨hP6,hQ6,hC6⟩
 rw [←g.1,←g.2]
 clear g
 exact side_any (mkP ax da) (mkQ ax da) (mkP ay da) (mkQ ay da) (mkP bx db) (mkQ bx db) (mkP by' db) (mkQ by' db) (mkP cx dc) (mkQ cx dc) (mkP cy dc) (mkQ cy dc) P0 Q0 C0 P1 Q1 C1 P2 Q2 C2 P3 Q3 C3 P4 Q4 C4 P5 Q5 C5 P6 Q6 C6 s0 A0 n0 c0 t0 B0 m0 d0 s1 A1 n1 c1 t1 B1 m1 d1 s2 A2 n2 c2 t2 B2 m2 d2 s3 A3 n3 c3 t3 B3 m3 d3 s4 A4 n4 c4 t4 B4 m4 d4 s5 A5 n5 c5 t5 B5 m5 d5 w h0 h1 h2 h3 h4 h5 (vl_frY v0.1) (vl_frY v0.2) (vl_frY v1.1) (vl_frY v1.2) (vl_frY v2.1) (vl_frY v2.2) ⟨hP0,hQ0,hC0⟩ ⟨hP1,hQ1,hC1⟩ ⟨hP2,hQ2,hC2⟩ ⟨hP3,hQ3,hC3⟩ ⟨hP4,hQ4,hC4⟩ ⟨hP5,hQ5,hC5⟩ ⟨hP6,hQ6,hC6⟩
theorem sidev_any {ax ay bx by' cx cy da db dc:Int} {a0 a1 a2 a3 a4 a5 a6 a7:Value} {b0 b1 b2 b3 b4 b5 b6 b7:Value} {c0 c1 c2 c3 c4 c5 c6 c7:Value} (w:World) (ha:PTq w a0 a1 a2 a3 a4 a5 a6 a7 ax ay da) (hb:PTq w b0 b1 b2 b3 b4 b5 b6 b7 bx by' db) (hc:PTq w c0 c1 c2 c3 c4 c5 c6 c7 cx cy dc) (za:Pz ax ay da) (zb:Pz bx by' db) (zc:Pz cx cy dc) :
  Calls Tryz.prog 25 #[.agg #[a0,a1,a2,a3,a4,a5,a6,a7],.agg #[b0,b1,b2,b3,b4,b5,b6,b7],.agg #[c0,c1,c2,c3,c4,c5,c6,c7]] w fun e w'=>e=.returned (.tuple #[.int .i64 (cmpI (arN ax ay da bx by' db cx cy dc) 0),.int .i64 0])∧Below w.heap.size w w':=by
 obtain ⟨⟨sa,Aa,na,ca,ta,Ba,ma,ka,rfl,rfl,rfl,rfl,pa⟩,⟨sa',Aa',na',ca',ta',Ba',ma',ka',rfl,rfl,rfl,rfl,pa'⟩⟩:=ha
 obtain ⟨⟨sb,Ab,nb,cb,tb,Bb,mb,kb,rfl,rfl,rfl,rfl,pb⟩,⟨sb',Ab',nb',cb',tb',Bb',mb',kb',rfl,rfl,rfl,rfl,pb'⟩⟩:=hb
 obtain ⟨⟨sc,Ac,nc,cc,tc,Bc,mc,kc,rfl,rfl,rfl,rfl,pc⟩,⟨sc',Ac',nc',cc',tc',Bc',mc',kc',rfl,rfl,rfl,rfl,pc'⟩⟩:=hc
 exact sidez_any ax ay da bx by' db cx cy dc sa Aa na ca ta Ba ma ka sa' Aa' na' ca' ta' Ba' ma' ka' sb Ab nb cb tb Bb mb kb sb' Ab' nb' cb' tb' Bb' mb' kb' sc Ac nc cc tc Bc mc kc sc' Ac' nc' cc' tc' Bc' mc' kc' w pa pa' pb pb' pc pc' za zb zc
/-- The law's points, by their index. -/
theorem points2_any (A:Option Addr) (ln c:Nat) (l:List Int) (w:World) (hg:Got w (.slice A ln c) l) :
  Calls Tryz.prog 19 #[.slice A ln c] w fun e w'=>∃ (g cap:Nat) (xs ys ds:Nat→Int),e=.returned (.slice (some ⟨g,0,none⟩) 4 cap)∧OwnR noU w' w.heap.size 32 3 (.slice (some ⟨g,0,none⟩) 4 cap) 4 (rowR xs ys ds)∧((∀ j,j < 4→Pq (xs j) (ys j) (ds j))∧Sm (xs 0) (ys 0) (ds 0)∧Sm (xs 1) (ys 1) (ds 1))∧Below w.heap.size w w':=by
 refine (points_any A ln c l w hg).mono ?_
 rintro e w1 ⟨g,cap,x0,y0,d0,x1,y1,d1,x2,y2,d2,x3,y3,d3,rfl,ho,q0,q1,q2,q3,s0,s1,hb⟩
 refine ⟨g,cap,at4 x0 x1 x2 x3,at4 y0 y1 y2 y3,at4 d0 d1 d2 d3,rfl,ho,⟨fun j hj=>?_,s0,s1⟩,hb⟩
 have hcs:j=0∨j=1∨j=2∨j=3:=by omega
 rcases hcs with rfl | rfl | rfl | rfl
 ·exact q0
 ·exact q1
 ·exact q2
 ·exact q3
/-- The program's points, by their index. -/
theorem four2_any (xs ys ds:Nat→Int) (g cap bs:Nat) (w:World) (ho:OwnR noU w bs 32 3 (.slice (some ⟨g,0,none⟩) 4 cap) 4 (rowR xs ys ds)) (hlt:g < w.heap.size) (hn:∀ j,j < 4→Pq (xs j) (ys j) (ds j)) :
  Calls Tryz.prog 18 #[.slice (some ⟨g,0,none⟩) 4 cap] w fun e w'=>∃ (gq cpq:Nat) (U:Nat→Nat→Value),e=.returned (.tuple #[.slice (some ⟨gq,0,none⟩) 4 cpq,.bool true])∧OwnR noU w' w.heap.size 29 8 (.slice (some ⟨gq,0,none⟩) 4 cpq) 4 (rowQ U)∧gq < w'.heap.size∧LF w' xs ys ds U∧Below w.heap.size w w':=by
 refine (four6_any (xs 0) (ys 0) (ds 0) (xs 1) (ys 1) (ds 1) (xs 2) (ys 2) (ds 2) (xs 3) (ys 3) (ds 3) g cap bs w ho hlt (hn 0 (by decide)) (hn 1 (by decide)) (hn 2 (by decide)) (hn 3 (by decide))).mono ?_
 rintro e w1 ⟨gq,cpq,sz0,Az0,nz0,cz0,tz0,Bz0,mz0,dz0,sz0b,Az0b,nz0b,cz0b,tz0b,Bz0b,mz0b,dz0b,sz1,Az1,nz1,cz1,tz1,Bz1,mz1,dz1,sz1b,Az1b,nz1b,cz1b,tz1b,Bz1b,mz1b,dz1b,sz2,Az2,nz2,cz2,tz2,Bz2,mz2,dz2,sz2b,Az2b,nz2b,cz2b,tz2b,Bz2b,mz2b,dz2b,sz3,Az3,nz3,cz3,tz3,Bz3,mz3,dz3,sz3b,Az3b,nz3b,cz3b,tz3b,Bz3b,mz3b,dz3b,rfl,ho2,hl,f0,f1,f2,f3,f4,f5,f6,f7,hb⟩
 refine ⟨gq,cpq,at4 (at8 (.bool sz0) (.slice Az0 nz0 cz0) (.bool tz0) (.slice Bz0 mz0 dz0) (.bool sz0b) (.slice Az0b nz0b cz0b) (.bool tz0b) (.slice Bz0b mz0b dz0b)) (at8 (.bool sz1) (.slice Az1 nz1 cz1) (.bool tz1) (.slice Bz1 mz1 dz1) (.bool sz1b) (.slice Az1b nz1b cz1b) (.bool tz1b) (.slice Bz1b mz1b dz1b)) (at8 (.bool sz2) (.slice Az2 nz2 cz2) (.bool tz2) (.slice Bz2 mz2 dz2) (.bool sz2b) (.slice Az2b nz2b cz2b) (.bool tz2b) (.slice Bz2b mz2b dz2b)) (at8 (.bool sz3) (.slice Az3 nz3 cz3) (.bool tz3) (.slice Bz3 mz3 dz3) (.bool sz3b) (.slice Az3b nz3b cz3b) (.bool tz3b) (.slice Bz3b mz3b dz3b)),rfl,ho2,hl,fun j hj=>?_,hb⟩
 have hcs:j=0∨j=1∨j=2∨j=3:=by omega
 rcases hcs with rfl | rfl | rfl | rfl
 ·exact ⟨⟨_,_,_,_,_,_,_,_,rfl,rfl,rfl,rfl,f0⟩,⟨_,_,_,_,_,_,_,_,rfl,rfl,rfl,rfl,f1⟩⟩
 ·exact ⟨⟨_,_,_,_,_,_,_,_,rfl,rfl,rfl,rfl,f2⟩,⟨_,_,_,_,_,_,_,_,rfl,rfl,rfl,rfl,f3⟩⟩
 ·exact ⟨⟨_,_,_,_,_,_,_,_,rfl,rfl,rfl,rfl,f4⟩,⟨_,_,_,_,_,_,_,_,rfl,rfl,rfl,rfl,f5⟩⟩
 ·exact ⟨⟨_,_,_,_,_,_,_,_,rfl,rfl,rfl,rfl,f6⟩,⟨_,_,_,_,_,_,_,_,rfl,rfl,rfl,rfl,f7⟩⟩
end Go.Proofs.YtbgfmegepekapaaGreat
