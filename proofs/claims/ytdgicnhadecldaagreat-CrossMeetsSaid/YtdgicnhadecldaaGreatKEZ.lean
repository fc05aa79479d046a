/- Contracts: the reference's sides and areas. Conditions: as each statement has them. -/
import Derived.Test.YtdgicnhadecldaaGreatKEV
import Derived.Test.YtdgicnhadecldaaGreatKEW
namespace Go.Proofs.YtdgicnhadecldaaGreat
set_option maxRecDepth 100000
set_option maxHeartbeats 12800000
open Go.RowKit
attribute [local go_sem ↓] Go.wp_at_zero Go.wp_at_succ
set_option linter.unusedVariables false
set_option linter.unusedSimpArgs false
theorem low_mkY {p q x d:Int} (h:Low p q) (hd:0 < d) (e:p*d=x*q):p=mkP x d∧q=mkQ x d:=by
 obtain ⟨hl,he⟩:=mk_low x d hd
 refine low_eq h hl ?_
 refine Int.eq_of_mul_eq_mul_right (show d≠0 by omega) ?_
 rw [Int.mul_right_comm,e,Int.mul_right_comm,←he,Int.mul_right_comm]
theorem vl_frY {p q x d:Int} (h:Vl 64 p q x d):Fr p q:=⟨h.1,by rw [lim_two]; exact B2.le h.2.1 (by decide),by rw [lim_two]; exact B2.le h.2.2.1 (by decide)⟩
theorem mk_le (x d:Int) (hd:0 < d):(mkP x d).natAbs≤x.natAbs∧(mkQ x d).natAbs≤d.natAbs:=by
 unfold mkP mkQ
 rw [if_neg (by omega),if_neg (by omega)]
 exact ⟨Int.natAbs_ediv_le_natAbs _ _,Int.natAbs_ediv_le_natAbs _ _⟩
/-- A fraction lies in four values. -/
def PFv (w:World) (a b c d:Value) (p q:Int):Prop:=∃ s A n c' t B m d',a=.bool s∧b=.slice A n c'∧c=.bool t∧d=.slice B m d'∧PF w s A n c' t B m d' p q
/-- A point lies in eight values. -/
def PTq (w:World) (a b c d a' b' c' d':Value) (x y z:Int):Prop:=PFv w a b c d (mkP x z) (mkQ x z)∧PFv w a' b' c' d' (mkP y z) (mkQ y z)
/-- A point of numbers that are not too great. -/
def Pz (X Y D:Int):Prop:=(0 < D∧Nk 1152921504606846976 D)∧Nk 1152921504606846976 X∧Nk 1152921504606846976 Y
theorem b2_64z {x:Int} (h:x.natAbs≤1152921504606846976):x.natAbs < B2 64:=Nat.lt_of_le_of_lt h (by unfold B2; decide)
theorem vl_mkz {X D:Int} (hx:Nk 1152921504606846976 X) (hd:0 < D∧Nk 1152921504606846976 D):Vl 64 (mkP X D) (mkQ X D) X D:=by
 obtain ⟨h1,h2⟩:=mk_low X D hd.1
 obtain ⟨m1,m2⟩:=mk_le X D hd.1
 have hd2:=hd.2
 unfold Nk at hx hd2
 exact ⟨h1,b2_64z (by omega),b2_64z (by omega),by omega,h2⟩
theorem pz_vl {X Y D:Int} (h:Pz X Y D):Vl 64 (mkP X D) (mkQ X D) X D∧Vl 64 (mkP Y D) (mkQ Y D) Y D:=⟨vl_mkz h.2.1 h.1,vl_mkz h.2.2 h.1⟩
theorem dd_posz {ax ay da bx by' db cx cy dc:Int} (ha:Pz ax ay da) (hb0:Pz bx by' db) (hc0:Pz cx cy dc):0 < (da*da*db*dc):=Int.mul_pos (Int.mul_pos (Int.mul_pos ha.1.1 ha.1.1) hb0.1.1) hc0.1.1
theorem areaz_any (ax ay da bx by' db cx cy dc:Int) (s0:Bool) (A0:Option Addr) (n0 c0:Nat) (t0:Bool) (B0:Option Addr) (m0 d0:Nat) (s1:Bool) (A1:Option Addr) (n1 c1:Nat) (t1:Bool) (B1:Option Addr) (m1 d1:Nat) (s2:Bool) (A2:Option Addr) (n2 c2:Nat) (t2:Bool) (B2:Option Addr) (m2 d2:Nat) (s3:Bool) (A3:Option Addr) (n3 c3:Nat) (t3:Bool) (B3:Option Addr) (m3 d3:Nat) (s4:Bool) (A4:Option Addr) (n4 c4:Nat) (t4:Bool) (B4:Option Addr) (m4 d4:Nat) (s5:Bool) (A5:Option Addr) (n5 c5:Nat) (t5:Bool) (B5:Option Addr) (m5 d5:Nat) (w:World) (h0:PF w s0 A0 n0 c0 t0 B0 m0 d0 (mkP ax da) (mkQ ax da)) (h1:PF w s1 A1 n1 c1 t1 B1 m1 d1 (mkP ay da) (mkQ ay da)) (h2:PF w s2 A2 n2 c2 t2 B2 m2 d2 (mkP bx db) (mkQ bx db)) (h3:PF w s3 A3 n3 c3 t3 B3 m3 d3 (mkP by' db) (mkQ by' db)) (h4:PF w s4 A4 n4 c4 t4 B4 m4 d4 (mkP cx dc) (mkQ cx dc)) (h5:PF w s5 A5 n5 c5 t5 B5 m5 d5 (mkP cy dc) (mkQ cy dc)) (ha:Pz ax ay da) (hb0:Pz bx by' db) (hc0:Pz cx cy dc) :
  Calls Tryz.prog 70 #[.agg #[.bool s0,.slice A0 n0 c0,.bool t0,.slice B0 m0 d0,.bool s1,.slice A1 n1 c1,.bool t1,.slice B1 m1 d1],.agg #[.bool s2,.slice A2 n2 c2,.bool t2,.slice B2 m2 d2,.bool s3,.slice A3 n3 c3,.bool t3,.slice B3 m3 d3],.agg #[.bool s4,.slice A4 n4 c4,.bool t4,.slice B4 m4 d4,.bool s5,.slice A5 n5 c5,.bool t5,.slice B5 m5 d5]] w (RetFE (mkP (arN ax ay da bx by' db cx cy dc) (da*da*db*dc)) (mkQ (arN ax ay da bx by' db cx cy dc) (da*da*db*dc)) 0 w):=by
 have v0:=pz_vl ha
 have v1:=pz_vl hb0
 have v2:=pz_vl hc0
 obtain ⟨P0,hP0⟩:=nmz (adP (mkP bx db) (mkQ bx db) (-(mkP ax da)) (mkQ ax da))
 obtain ⟨Q0,hQ0⟩:=nmz (adQ (mkP bx db) (mkQ bx db) (-(mkP ax da)) (mkQ ax da))
 obtain ⟨C0,hC0⟩:=nmz (adC (mkP bx db) (mkQ bx db) (-(mkP ax da)) (mkQ ax da))
 obtain ⟨P1,hP1⟩:=nmz (adP (mkP cy dc) (mkQ cy dc) (-(mkP ay da)) (mkQ ay da))
 obtain ⟨Q1,hQ1⟩:=nmz (adQ (mkP cy dc) (mkQ cy dc) (-(mkP ay da)) (mkQ ay da))
 obtain ⟨C1,hC1⟩:=nmz (adC (mkP cy dc) (mkQ cy dc) (-(mkP ay da)) (mkQ ay da))
 obtain ⟨P2,hP2⟩:=nmz (muP P0 Q0 P1 Q1)
 obtain ⟨Q2,hQ2⟩:=nmz (muQ P0 Q0 P1 Q1)
 obtain ⟨C2,hC2⟩:=nmz (muC P0 Q0 P1 Q1)
 obtain ⟨P3,hP3⟩:=nmz (adP (mkP by' db) (mkQ by' db) (-(mkP ay da)) (mkQ ay da))
 obtain ⟨Q3,hQ3⟩:=nmz (adQ (mkP by' db) (mkQ by' db) (-(mkP ay da)) (mkQ ay da))
 obtain ⟨C3,hC3⟩:=nmz (adC (mkP by' db) (mkQ by' db) (-(mkP ay da)) (mkQ ay da))
 obtain ⟨P4,hP4⟩:=nmz (adP (mkP cx dc) (mkQ cx dc) (-(mkP ax da)) (mkQ ax da))
 obtain ⟨Q4,hQ4⟩:=nmz (adQ (mkP cx dc) (mkQ cx dc) (-(mkP ax da)) (mkQ ax da))
 obtain ⟨C4,hC4⟩:=nmz (adC (mkP cx dc) (mkQ cx dc) (-(mkP ax da)) (mkQ ax da))
 obtain ⟨P5,hP5⟩:=nmz (muP P3 Q3 P4 Q4)
 obtain ⟨Q5,hQ5⟩:=nmz (muQ P3 Q3 P4 Q4)
 obtain ⟨C5,hC5⟩:=nmz (muC P3 Q3 P4 Q4)
 obtain ⟨P6,hP6⟩:=nmz (adP P2 Q2 (-P5) Q5)
 obtain ⟨Q6,hQ6⟩:=nmz (adQ P2 Q2 (-P5) Q5)
 obtain ⟨C6,hC6⟩:=nmz (adC P2 Q2 (-P5) Q5)
 obtain ⟨g1,g2,g3,_⟩:=area_small (ax:=ax) (ay:=ay) (bx:=bx) (by':=by') (cx:=cx) (cy:=cy) ⟨ha.1.1,hb0.1.1,hc0.1.1⟩ v0.1 v0.2 v1.1 v1.2 v2.1 v2.2 ⟨hP0,hQ0,hC0⟩ ⟨hP1,hQ1,hC1⟩ ⟨hP2,hQ2,hC2⟩ ⟨hP3,hQ3,hC3⟩ ⟨hP4,hQ4,hC4⟩ ⟨hP5,hQ5,hC5⟩ ⟨hP6,hQ6,hC6⟩
 obtain ⟨k1,k2⟩:=low_mkY g2 (dd_posz ha hb0 hc0) g3
 have er:RetFE (mkP (arN ax ay da bx by' db cx cy dc) (da*da*db*dc)) (mkQ (arN ax ay da bx by' db cx cy dc) (da*da*db*dc)) 0 w=RetFE (feP (feV [C0,C1,C2,C3,C4,C5,C6]) P6) (feQ (feV [C0,C1,C2,C3,C4,C5,C6]) Q6) (feV [C0,C1,C2,C3,C4,C5,C6]) w:=by rw [←k1,←k2,feP,feQ,if_pos g1,if_pos g1,g1]
 rw [er]
 clear er k1 k2 g1 g2 g3
 exact area_any (mkP ax da) (mkQ ax da) (mkP ay da) (mkQ ay da) (mkP bx db) (mkQ bx db) (mkP by' db) (mkQ by' db) (mkP cx dc) (mkQ cx dc) (mkP cy dc) (mkQ cy dc) P0 Q0 C0 P1 Q1 C1 P2 Q2 C2 P3 Q3 C3 P4 Q4 C4 P5 Q5 C5 P6 Q6 C6 s0 A0 n0 c0 t0 B0 m0 d0 s1 A1 n1 c1 t1 B1 m1 d1 s2 A2 n2 c2 t2 B2 m2 d2 s3 A3 n3 c3 t3 B3 m3 d3 s4 A4 n4 c4 t4 B4 m4 d4 s5 A5 n5 c5 t5 B5 m5 d5 w h0 h1 h2 h3 h4 h5 (vl_frY v0.1) (vl_frY v0.2) (vl_frY v1.1) (vl_frY v1.2) (vl_frY v2.1) (vl_frY v2.2) ⟨hP0,hQ0,hC0⟩ ⟨hP1,hQ1,hC1⟩ ⟨hP2,hQ2,hC2⟩ ⟨hP3,hQ3,hC3⟩ ⟨hP4,hQ4,hC4⟩ ⟨hP5,hQ5,hC5⟩ ⟨hP6,hQ6,hC6⟩
theorem areav_any {ax ay bx by' cx cy da db dc:Int} {a0 a1 a2 a3 a4 a5 a6 a7:Value} {b0 b1 b2 b3 b4 b5 b6 b7:Value} {c0 c1 c2 c3 c4 c5 c6 c7:Value} (w:World) (ha:PTq w a0 a1 a2 a3 a4 a5 a6 a7 ax ay da) (hb:PTq w b0 b1 b2 b3 b4 b5 b6 b7 bx by' db) (hc:PTq w c0 c1 c2 c3 c4 c5 c6 c7 cx cy dc) (za:Pz ax ay da) (zb:Pz bx by' db) (zc:Pz cx cy dc) :
  Calls Tryz.prog 70 #[.agg #[a0,a1,a2,a3,a4,a5,a6,a7],.agg #[b0,b1,b2,b3,b4,b5,b6,b7],.agg #[c0,c1,c2,c3,c4,c5,c6,c7]] w (RetFE (mkP (arN ax ay da bx by' db cx cy dc) (da*da*db*dc)) (mkQ (arN ax ay da bx by' db cx cy dc) (da*da*db*dc)) 0 w):=by
 obtain ⟨⟨sa,Aa,na,ca,ta,Ba,ma,ka,rfl,rfl,rfl,rfl,pa⟩,⟨sa',Aa',na',ca',ta',Ba',ma',ka',rfl,rfl,rfl,rfl,pa'⟩⟩:=ha
 obtain ⟨⟨sb,Ab,nb,cb,tb,Bb,mb,kb,rfl,rfl,rfl,rfl,pb⟩,⟨sb',Ab',nb',cb',tb',Bb',mb',kb',rfl,rfl,rfl,rfl,pb'⟩⟩:=hb
 obtain ⟨⟨sc,Ac,nc,cc,tc,Bc,mc,kc,rfl,rfl,rfl,rfl,pc⟩,⟨sc',Ac',nc',cc',tc',Bc',mc',kc',rfl,rfl,rfl,rfl,pc'⟩⟩:=hc
 exact areaz_any ax ay da bx by' db cx cy dc sa Aa na ca ta Ba ma ka sa' Aa' na' ca' ta' Ba' ma' ka' sb Ab nb cb tb Bb mb kb sb' Ab' nb' cb' tb' Bb' mb' kb' sc Ac nc cc tc Bc mc kc sc' Ac' nc' cc' tc' Bc' mc' kc' w pa pa' pb pb' pc pc' za zb zc
end Go.Proofs.YtdgicnhadecldaaGreat
