/- The rest of a text. -/
import Derived.Test.YteggneaefggbmaaGreatEZ
import Derived.Test.YteggneaefggbmaaGreatBT
import Derived.Test.YteggneaefggbmaaGreatEZx
namespace Go.Proofs.YteggneaefggbmaaGreat
set_option maxRecDepth 100000
set_option maxHeartbeats 12800000
open Go.RowKit
attribute [local go_sem ↓] Go.wp_at_zero Go.wp_at_succ
set_option linter.unusedVariables false
set_option linter.unusedSimpArgs false
def lexI (a b c d:Int):Int:=if cmpI a c=0 then cmpI b d else cmpI a c
theorem cm_sg {a b:Int}:cmpI a b = -1∧a < b∨cmpI a b=0∧a=b∨cmpI a b=1∧b < a:=by
  unfold cmpI
  rcases Int.lt_trichotomy a b with h | h | h
  · exact .inl ⟨if_pos h,h⟩
  · exact .inr (.inl ⟨by rw [if_neg (by omega),if_neg (by omega)],h⟩)
  · exact .inr (.inr ⟨by rw [if_neg (by omega),if_pos h],h⟩)
theorem lex_sg (a b c d:Int):lexI a b c d = -1∧(a < c∨a=c∧b < d)∨lexI a b c d=0∧(a=c∧b=d)∨lexI a b c d=1∧(c < a∨a=c∧d < b):=by
  unfold lexI
  rcases cm_sg (a:=a) (b:=c) with ⟨h,g⟩ | ⟨h,g⟩ | ⟨h,g⟩
  · rw [h,if_neg (by decide)]; omega
  · rw [h,if_pos rfl]
    rcases cm_sg (a:=b) (b:=d) with ⟨h',g'⟩ | ⟨h',g'⟩ | ⟨h',g'⟩ <;> rw [h'] <;> omega
  · rw [h,if_neg (by decide)]; omega
theorem lex_in (a b c d e f:Int):0≤lexI a b c d*lexI c d e f↔¬((a < c∨a=c∧b < d)∧(e < c∨e=c∧f < d))∧¬((c < a∨a=c∧d < b)∧(c < e∨c=e∧d < f)):=by
  rcases lex_sg a b c d with ⟨h,g⟩ | ⟨h,g⟩ | ⟨h,g⟩ <;> rcases lex_sg c d e f with ⟨h',g'⟩ | ⟨h',g'⟩ | ⟨h',g'⟩ <;> rw [h,h'] <;> omega
theorem quarter_in {a b c d e f p q:Int} (hx:4*e=3*a+c) (hy:4*f=3*b+d):(0≤lexI a b p q*lexI p q c d)↔(0≤lexI a b p q*lexI p q e f)∨(0≤lexI e f p q*lexI p q c d):=by
  rw [lex_in,lex_in,lex_in]
  omega
/-- A quarter of the way from one point to another. -/
def Qt (x0 y0 d0 x1 y1 d1 x3 y3 d3:Int):Prop:=x3*(4*(d0*d1))=d3*(3*x0*d1+x1*d0)∧y3*(4*(d0*d1))=d3*(3*y0*d1+y1*d0)
theorem qt_ar {x0 y0 d0 x1 y1 d1 x3 y3 d3:Int} (h:Qt x0 y0 d0 x1 y1 d1 x3 y3 d3) (px py dp:Int):4*(d0*d1)*arN x0 y0 d0 x3 y3 d3 px py dp=d0*d3*arN x0 y0 d0 x1 y1 d1 px py dp∧4*(d0*d1)*(d0*arN x3 y3 d3 x1 y1 d1 px py dp)=d3*(3*(d1*(d3*arN x0 y0 d0 x1 y1 d1 px py dp)))∧4*(d0*d1)*arN x0 y0 d0 x1 y1 d1 x3 y3 d3=0:=by
  obtain ⟨h1,h2⟩:=h
  unfold arN
  refine ⟨?_,?_,?_⟩ <;> grind
theorem qt_cm {x0 d0 x1 d1 x3 d3:Int} (k0:0 < d0) (k1:0 < d1) (k3:0 < d3) (h:x3*(4*(d0*d1))=d3*(3*x0*d1+x1*d0)):cmpI (x0*d3) (x3*d0)=cmpI (x0*d1) (x1*d0)∧cmpI (x3*d1) (x1*d3)=cmpI (x0*d1) (x1*d0):=by
  have m1:0 < d0*d1:=Int.mul_pos k0 k1
  have m2:0 < d0*d3:=Int.mul_pos k0 k3
  have m3:0 < d1*d3:=Int.mul_pos k1 k3
  constructor
  · refine cm_diff (m:=4*(d0*d1)) (n:=d0*d3) (by omega) m2 ?_
    clear m1 m2 m3 k0 k1 k3
    grind
  · refine cm_diff (m:=4*(d0*d1)) (n:=3*(d1*d3)) (by omega) (by omega) ?_
    clear m1 m2 m3 k0 k1 k3
    grind
theorem mul0 {a b:Int} (ha:0 < a) (h:a*b=0):b=0:=by
  rcases Int.mul_eq_zero.1 h with h | h
  · omega
  · exact h
theorem qt_on {x0 y0 d0 x1 y1 d1 x3 y3 d3:Int} (k0:0 < d0) (k1:0 < d1) (k3:0 < d3) (h:Qt x0 y0 d0 x1 y1 d1 x3 y3 d3):btV x0 y0 d0 x1 y1 d1 x3 y3 d3=true:=by
  have m1:0 < d0*d1:=Int.mul_pos k0 k1
  have e:=mul0 (by omega) (qt_ar h 0 0 0).2.2
  obtain ⟨c1,c2⟩:=qt_cm k0 k1 k3 h.1
  obtain ⟨c3,c4⟩:=qt_cm k0 k1 k3 h.2
  unfold btV inX inC
  rw [e,c1,c2,c3,c4,sq_in _ (cm_three _ _),sq_in _ (cm_three _ _)]
  rfl
theorem rc_lex {x y d x' y' d' m:Int} (hm:0 < m):rcV x y d x' y' d'=lexI (x*d'*m) (y*d'*m) (x'*d*m) (y'*d*m):=by
  unfold rcV lexI
  rw [cm_scale hm,cm_scale hm]
theorem dec_iff {p q r:Prop} [Decidable p] [Decidable q] [Decidable r] (h:p↔q∨r):decide p=(decide q || decide r):=by
  by_cases hq:q <;> by_cases hr:r <;> simp [h,hq,hr]
theorem qt_also {x0 y0 d0 x1 y1 d1 x3 y3 d3 px py dp:Int} (k0:0 < d0) (k1:0 < d1) (k3:0 < d3) (h:Qt x0 y0 d0 x1 y1 d1 x3 y3 d3):btV x0 y0 d0 x1 y1 d1 px py dp=(btV x0 y0 d0 x3 y3 d3 px py dp || btV x3 y3 d3 x1 y1 d1 px py dp):=by
  have m1:0 < d0*d1:=Int.mul_pos k0 k1
  have m2:0 < d0*d3:=Int.mul_pos k0 k3
  have m3:0 < d1*d3:=Int.mul_pos k1 k3
  obtain ⟨a1,a2,_⟩:=qt_ar h px py dp
  by_cases e:arN x0 y0 d0 x1 y1 d1 px py dp=0
  · rw [e] at a1 a2
    have e1:arN x0 y0 d0 x3 y3 d3 px py dp=0:=mul0 (a:=4*(d0*d1)) (by omega) (by rw [a1,Int.mul_zero])
    have e2:arN x3 y3 d3 x1 y1 d1 px py dp=0:=mul0 (a:=d0) k0 (mul0 (a:=4*(d0*d1)) (by omega) (by rw [a2,Int.mul_zero,Int.mul_zero,Int.mul_zero,Int.mul_zero]))
    unfold btV
    rw [bt_ref k0 e,bt_ref k0 e1,bt_ref k3 e2,e,e1,e2]
    have r1:rcV x0 y0 d0 px py dp=lexI (x0*(d1*d3*dp)) (y0*(d1*d3*dp)) (px*(d0*d1*d3)) (py*(d0*d1*d3)):=by
      rw [rc_lex (m:=d1*d3) m3]; congr 1 <;> ac_rfl
    have r2:rcV px py dp x1 y1 d1=lexI (px*(d0*d1*d3)) (py*(d0*d1*d3)) (x1*(d0*d3*dp)) (y1*(d0*d3*dp)):=by
      rw [rc_lex (m:=d0*d3) m2]; congr 1 <;> ac_rfl
    have r3:rcV px py dp x3 y3 d3=lexI (px*(d0*d1*d3)) (py*(d0*d1*d3)) (x3*(d0*d1*dp)) (y3*(d0*d1*dp)):=by
      rw [rc_lex (m:=d0*d1) m1]; congr 1 <;> ac_rfl
    have r4:rcV x3 y3 d3 px py dp=lexI (x3*(d0*d1*dp)) (y3*(d0*d1*dp)) (px*(d0*d1*d3)) (py*(d0*d1*d3)):=by
      rw [rc_lex (m:=d0*d1) m1]; congr 1 <;> ac_rfl
    rw [r1,r2,r3,r4]
    have q1:4*(x3*(d0*d1*dp))=3*(x0*(d1*d3*dp))+x1*(d0*d3*dp):=by
      have h1:=h.1
      clear r1 r2 r3 r4 a1 a2 e e1 e2 m1 m2 m3 k0 k1 k3 h
      grind
    have q2:4*(y3*(d0*d1*dp))=3*(y0*(d1*d3*dp))+y1*(d0*d3*dp):=by
      have h1:=h.2
      clear r1 r2 r3 r4 a1 a2 e e1 e2 m1 m2 m3 k0 k1 k3 h q1
      grind
    have g:=dec_iff (quarter_in (p:=px*(d0*d1*d3)) (q:=py*(d0*d1*d3)) q1 q2)
    rw [g]
    rfl
  · have e1:arN x0 y0 d0 x3 y3 d3 px py dp≠0:=fun z=>e (mul0 (a:=d0*d3) m2 (by rw [←a1,z,Int.mul_zero]))
    have e2:arN x3 y3 d3 x1 y1 d1 px py dp≠0:=by
      intro z
      rw [z,Int.mul_zero,Int.mul_zero] at a2
      exact e (mul0 k3 (mul0 k1 (mul0 (a:=3) (by omega) (mul0 k3 a2.symm))))
    have f:∀ z:Int,z≠0→decide (cmpI z 0=0)=false:=by
      intro z hz
      refine decide_eq_false ?_
      unfold cmpI
      split
      · omega
      · split <;> omega
    unfold btV
    rw [f _ e,f _ e1,f _ e2]
    rfl
theorem qt_half {x0 d0 x1 d1 X' D' X3 D3 g h:Int} (k0:0 < d0) (e1:x0*d1+x1*d0=g*X') (e2:2*(d0*d1)=g*D') (f1:x0*D'+X'*d0=h*X3) (f2:2*(d0*D')=h*D3) (hg:0 < g) (hh:0 < h):X3*(4*(d0*d1))=D3*(3*x0*d1+x1*d0):=by
  have a1:g*(h*X3)=d0*(3*x0*d1+x1*d0):=by
    rw [←f1,Int.mul_add,show g*(x0*D')=x0*(g*D') by ac_rfl,←e2,show g*(X'*d0)=(g*X')*d0 by ac_rfl,←e1]
    clear e1 e2 f1 f2 hg hh k0
    grind
  have a2:g*(h*D3)=d0*(4*(d0*d1)):=by
    rw [←f2,show g*(2*(d0*D'))=2*d0*(g*D') by ac_rfl,←e2]
    clear a1 e1 e2 f1 f2 hg hh k0
    grind
  have a3:g*h*d0≠0:=by
    have:=Int.mul_pos (Int.mul_pos hg hh) k0
    omega
  refine Int.eq_of_mul_eq_mul_left a3 ?_
  calc g*h*d0*(X3*(4*(d0*d1)))=(g*(h*X3))*(d0*(4*(d0*d1))):=by ac_rfl
    _=(d0*(3*x0*d1+x1*d0))*(g*(h*D3)):=by rw [a1,a2]
    _=g*h*d0*(D3*(3*x0*d1+x1*d0)):=by ac_rfl
theorem gcd_dvd3 {x y d n:Nat} (h:Nat.gcd (Nat.gcd x y) d=1) (hx:d∣x*n) (hy:d∣y*n):d∣n:=by
  have h1:d∣Nat.gcd (Nat.gcd (x*n) (y*n)) (d*n):=Nat.dvd_gcd (Nat.dvd_gcd hx hy) (Nat.dvd_mul_right d n)
  rw [Nat.gcd_mul_right,Nat.gcd_mul_right,h,Nat.one_mul] at h1
  exact h1
theorem nat_of {X N D M:Int} (h:X*N=D*M):D.natAbs∣X.natAbs*N.natAbs:=by
  rw [←Int.natAbs_mul,h,Int.natAbs_mul]
  exact Nat.dvd_mul_right _ _
theorem qt_le {X N D M:Int} (hN:0 < N) (hD:0 < D) (hDN:D≤N) (h:X*N=D*M):X.natAbs≤M.natAbs:=by
  have h1:=congrArg Int.natAbs h
  rw [Int.natAbs_mul,Int.natAbs_mul] at h1
  have h2:D.natAbs*M.natAbs≤N.natAbs*M.natAbs:=Nat.mul_le_mul_right _ (by omega)
  rw [←h1,Nat.mul_comm] at h2
  exact Nat.le_of_mul_le_mul_left h2 (by omega)
theorem num_bnd {x0 d0 x1 d1:Int} (h0:Nk 400 x0) (h1:Nk 400 x1) (k0:0 < d0∧d0≤12) (k1:0 < d1∧d1≤12):(3*x0*d1+x1*d0).natAbs≤19200:=by
  have b1:=nk_mul h0 (show Nk 12 d1 by unfold Nk; omega)
  have b2:=nk_mul h1 (show Nk 12 d0 by unfold Nk; omega)
  rw [Int.mul_assoc]
  unfold Nk at b1 b2
  omega
/-- The second middle: a quarter of the way. -/
theorem qt_of {x0 y0 d0 x1 y1 d1 X' Y' D' X3 Y3 D3:Int} (h0:Sm x0 y0 d0) (h1:Sm x1 y1 d1) (hm:MkR (x0*d1+x1*d0) (y0*d1+y1*d0) (2*d0*d1) X' Y' D') (hn:(MkR (x0*D'+X'*d0) (y0*D'+Y'*d0) (2*d0*D') X3 Y3 D3∧Nat.gcd (Nat.gcd X3.natAbs Y3.natAbs) D3.natAbs=1)∧0 < D3):Qt x0 y0 d0 x1 y1 d1 X3 Y3 D3∧Pq X3 Y3 D3:=by
  obtain ⟨g,hg,e1,e2,e3,_⟩:=hm
  obtain ⟨⟨⟨h,hh,f1,f2,f3,_⟩,hG⟩,hD⟩:=hn
  have q1:=qt_half h0.1.1 e1 (by rw [←Int.mul_assoc]; exact e3) f1 (by rw [←Int.mul_assoc]; exact f3) hg hh
  have q2:=qt_half h0.1.1 e2 (by rw [←Int.mul_assoc]; exact e3) f2 (by rw [←Int.mul_assoc]; exact f3) hg hh
  have hdd:0 < d0*d1:=Int.mul_pos h0.1.1 h1.1.1
  have hdv:D3.natAbs∣(4*(d0*d1)).natAbs:=gcd_dvd3 hG (nat_of q1) (nat_of q2)
  have hle:=Nat.le_of_dvd (by omega) hdv
  have hb:=nk_mul (show Nk 12 d0 by have:=h0.1; unfold Nk; omega) (show Nk 12 d1 by have:=h1.1; unfold Nk; omega)
  have b1:=num_bnd h0.2.1 h1.2.1 h0.1 h1.1
  have b2:=num_bnd h0.2.2.1 h1.2.2.1 h0.1 h1.1
  have c1:=qt_le (by omega) hD (by omega) q1
  have c2:=qt_le (by omega) hD (by omega) q2
  refine ⟨⟨q1,q2⟩,?_⟩
  unfold Nk at hb
  unfold Pq
  omega
theorem betweenz_any (ax ay da bx by' db cx cy dc:Int) (s0:Bool) (A0:Option Addr) (n0 c0:Nat) (t0:Bool) (B0:Option Addr) (m0 d0:Nat) (s1:Bool) (A1:Option Addr) (n1 c1:Nat) (t1:Bool) (B1:Option Addr) (m1 d1:Nat) (s2:Bool) (A2:Option Addr) (n2 c2:Nat) (t2:Bool) (B2:Option Addr) (m2 d2:Nat) (s3:Bool) (A3:Option Addr) (n3 c3:Nat) (t3:Bool) (B3:Option Addr) (m3 d3:Nat) (s4:Bool) (A4:Option Addr) (n4 c4:Nat) (t4:Bool) (B4:Option Addr) (m4 d4:Nat) (s5:Bool) (A5:Option Addr) (n5 c5:Nat) (t5:Bool) (B5:Option Addr) (m5 d5:Nat) (w:World) (h0:PF w s0 A0 n0 c0 t0 B0 m0 d0 (mkP ax da) (mkQ ax da)) (h1:PF w s1 A1 n1 c1 t1 B1 m1 d1 (mkP ay da) (mkQ ay da)) (h2:PF w s2 A2 n2 c2 t2 B2 m2 d2 (mkP bx db) (mkQ bx db)) (h3:PF w s3 A3 n3 c3 t3 B3 m3 d3 (mkP by' db) (mkQ by' db)) (h4:PF w s4 A4 n4 c4 t4 B4 m4 d4 (mkP cx dc) (mkQ cx dc)) (h5:PF w s5 A5 n5 c5 t5 B5 m5 d5 (mkP cy dc) (mkQ cy dc)) (ha:Pz ax ay da) (hb0:Pz bx by' db) (hc0:Pz cx cy dc) :
    Calls Tryz.prog 47 #[.agg #[.bool s0,.slice A0 n0 c0,.bool t0,.slice B0 m0 d0,.bool s1,.slice A1 n1 c1,.bool t1,.slice B1 m1 d1],.agg #[.bool s2,.slice A2 n2 c2,.bool t2,.slice B2 m2 d2,.bool s3,.slice A3 n3 c3,.bool t3,.slice B3 m3 d3],.agg #[.bool s4,.slice A4 n4 c4,.bool t4,.slice B4 m4 d4,.bool s5,.slice A5 n5 c5,.bool t5,.slice B5 m5 d5]] w fun e w'=>e=.returned (.tuple #[.bool (btV ax ay da bx by' db cx cy dc),.int .i64 0])∧Below w.heap.size w w':=by
  have aS:=hJ h0
  have aT:=hJ h1
  have aU:=hJ h2
  have aV:=hJ h3
  have aW:=hJ h4
  have aX:=hJ h5
  have aC:=hJ ha
  have aD:=hJ hb0
  have aE:=hJ hc0
  clear ha hb0 hc0 h0 h1 h2 h3 h4 h5
  obtain ⟨sd,hsd⟩:=nmz (cmpI (arN ax ay da bx by' db cx cy dc) 0)
  have aG:=hJ hsd
  clear hsd
  obtain ⟨xb,hxb⟩:=nmz (bxV (mkP ax da) (mkQ ax da) (mkP ay da) (mkQ ay da) (mkP bx db) (mkQ bx db) (mkP by' db) (mkQ by' db) (mkP cx dc) (mkQ cx dc) (mkP cy dc) (mkQ cy dc))
  have aH:=hJ hxb
  clear hxb
  obtain ⟨x1,aF⟩:=nmz (((w.alloc (.cells #[.bool s0,.slice A0 n0 c0,.bool t0,.slice B0 m0 d0,.bool s1,.slice A1 n1 c1,.bool t1,.slice B1 m1 d1] 29)).alloc (.cells #[.bool s2,.slice A2 n2 c2,.bool t2,.slice B2 m2 d2,.bool s3,.slice A3 n3 c3,.bool t3,.slice B3 m3 d3] 29)).alloc (.cells #[.bool s4,.slice A4 n4 c4,.bool t4,.slice B4 m4 d4,.bool s5,.slice A5 n5 c5,.bool t5,.slice B5 m5 d5] 29))
  have aB:=hJ (show Below w.heap.size w x1 by rw [←aF]; exact ((((Below.refl _ _).alloc (Nat.le_refl _) _).alloc (by simp only [World.size_alloc]; omega) _).alloc (by simp only [World.size_alloc]; omega) _))
  have aJ:=hJ (show BX 29 x1 w.heap.size #[.bool s0,.slice A0 n0 c0,.bool t0,.slice B0 m0 d0,.bool s1,.slice A1 n1 c1,.bool t1,.slice B1 m1 d1] by rw [←aF]; exact (((BX.at rfl).alloc _).alloc _))
  have aK:=hJ (show BX 29 x1 (w.heap.size+1) #[.bool s2,.slice A2 n2 c2,.bool t2,.slice B2 m2 d2,.bool s3,.slice A3 n3 c3,.bool t3,.slice B3 m3 d3] by rw [←aF]; exact ((BX.at (by simp only [World.size_alloc])).alloc _))
  have aL:=hJ (show BX 29 x1 (w.heap.size+2) #[.bool s4,.slice A4 n4 c4,.bool t4,.slice B4 m4 d4,.bool s5,.slice A5 n5 c5,.bool t5,.slice B5 m5 d5] by rw [←aF]; exact (BX.at (by simp only [World.size_alloc])))
  obtain ⟨aY,aZ,bA,bB,bC,bD,bE,bF⟩:=aJ.out.q8 0 1 2 3 4 5 6 7
  obtain ⟨bG,bH,bJ,bK,bL,bM,bN,bO⟩:=aK.out.q8 0 1 2 3 4 5 6 7
  obtain ⟨bP,bQ,bR,bS,bT,bU,bV,bW⟩:=aL.out.q8 0 1 2 3 4 5 6 7
  have aM:=hJ (PF.new aS.out aB.out)
  have aN:=hJ (PF.new aT.out aB.out)
  have aO:=hJ (PF.new aU.out aB.out)
  have aP:=hJ (PF.new aV.out aB.out)
  have aQ:=hJ (PF.new aW.out aB.out)
  have aR:=hJ (PF.new aX.out aB.out)
  go_enter Tryz.func47,Tryz.ntmps47
  go_wp2_with fail
  clear aF aY aZ bA bB bC bD bE bF bG bH bJ bK bL bM bN bO bP bQ bR bS bT bU bV bW
  refine (sidez_any ax ay da bx by' db cx cy dc s0 A0 n0 c0 t0 B0 m0 d0 s1 A1 n1 c1 t1 B1 m1 d1 s2 A2 n2 c2 t2 B2 m2 d2 s3 A3 n3 c3 t3 B3 m3 d3 s4 A4 n4 c4 t4 B4 m4 d4 s5 A5 n5 c5 t5 B5 m5 d5 x1 aM.out aN.out aO.out aP.out aQ.out aR.out aC.out aD.out aE.out).mono ?_
  rw [aG.out]
  rintro e w26 ⟨rfl,hb⟩
  have aA:=hJ hb
  clear hb
  by_cases hs:sd=0
  · have es:(sd == 0)=true:=by simp [hs]
    have aI:=hJ (show decide (sd=0)=true from decide_eq_true hs)
    clear hs
    have bX:=hJ (BX.new aJ.out aA.out)
    obtain ⟨bY,bZ,cA,cB,cC,cD,cE,cF⟩:=bX.out.q8 0 1 2 3 4 5 6 7
    have cG:=hJ (BX.new aK.out aA.out)
    obtain ⟨cH,cI,cJ,cK,cL,cM,cN,cO⟩:=cG.out.q8 0 1 2 3 4 5 6 7
    have cP:=hJ (BX.new aL.out aA.out)
    obtain ⟨cQ,cR,cS,cT,cU,cV,cW,cX⟩:=cP.out.q8 0 1 2 3 4 5 6 7
    have cY:=hJ (PF.new aM.out aA.out)
    have cZ:=hJ (PF.new aN.out aA.out)
    have dA:=hJ (PF.new aO.out aA.out)
    have dB:=hJ (PF.new aP.out aA.out)
    have dD:=hJ (PF.new aQ.out aA.out)
    have dE:=hJ (PF.new aR.out aA.out)
    go_wp2_with fail
    clear bY bZ cA cB cC cD cE cF cH cI cJ cK cL cM cN cO cQ cR cS cT cU cV cW cX
    refine (inbox_any (mkP ax da) (mkQ ax da) (mkP ay da) (mkQ ay da) (mkP bx db) (mkQ bx db) (mkP by' db) (mkQ by' db) (mkP cx dc) (mkQ cx dc) (mkP cy dc) (mkQ cy dc) s0 A0 n0 c0 t0 B0 m0 d0 s1 A1 n1 c1 t1 B1 m1 d1 s2 A2 n2 c2 t2 B2 m2 d2 s3 A3 n3 c3 t3 B3 m3 d3 s4 A4 n4 c4 t4 B4 m4 d4 s5 A5 n5 c5 t5 B5 m5 d5 w26 cY.out cZ.out dA.out dB.out dD.out dE.out (vl_frY (pz_vl aC.out).1) (vl_frY (pz_vl aC.out).2) (vl_frY (pz_vl aD.out).1) (vl_frY (pz_vl aD.out).2) (vl_frY (pz_vl aE.out).1) (vl_frY (pz_vl aE.out).2)).mono ?_
    rw [aH.out]
    rintro e w51 ⟨rfl,hb⟩
    have dF:=hJ hb
    clear hb
    have dG:=hJ (bt (bt aB.out aA.out) dF.out)
    go_wp2
    go_ret2
    exact ⟨by unfold btV; rw [←bx_mk aC.out.1.1 aD.out.1.1 aE.out.1.1,aH.out,aG.out,aI.out]; rw [Bool.true_and] <;> rfl,dG.out⟩
  · have es:(sd == 0)=false:=by simp [hs]
    have aI:=hJ (show decide (sd=0)=false from decide_eq_false hs)
    clear hs
    have dH:=hJ (bt aB.out aA.out)
    go_wp2
    go_ret2
    exact ⟨by unfold btV; rw [←bx_mk aC.out.1.1 aD.out.1.1 aE.out.1.1,aH.out,aG.out,aI.out]; rw [Bool.false_and] <;> rfl,dH.out⟩
theorem rmid2_any (X Y D X' Y' D':Int) (w:World) (h:Pq X Y D) (h':Pq X' Y' D') :
    Calls Tryz.prog 46 #[.agg #[.int .i64 X,.int .i64 Y,.int .i64 D],.agg #[.int .i64 X',.int .i64 Y',.int .i64 D']] w fun e w'=>∃ A B C:Int,e=.returned (.agg #[.int .i64 A,.int .i64 B,.int .i64 C])∧((MkR (X*D'+X'*D) (Y*D'+Y'*D) (2*D*D') A B C∧Nat.gcd (Nat.gcd A.natAbs B.natAbs) C.natAbs=1)∧0 < C)∧Below w.heap.size w w':=by
  have HA:=hJ (pq_nk h)
  have HB:=hJ (pq_nk h')
  have aL:=hJ (show 0 < 2*D*D' by have h1:=Int.mul_pos h.1.1 h'.1.1; rw [Int.mul_assoc]; omega)
  clear h h'
  obtain ⟨u,hu⟩:=nmz (X*D'+X'*D)
  have aM:=hJ hu
  have aE:=hJ (show Nk (19200*576+19200*576) u by rw [←hu]; exact nk_add (nk_mul HA.out.1.1 HB.out.2) (nk_mul HB.out.1.1 HA.out.2))
  have Wu:=hJ (show IntKind.i64.wrap (X*D'+X'*D)=u by rw [hu]; exact i6_wrap (nk_i6 aE.out (by decide)))
  clear hu
  obtain ⟨v,hv⟩:=nmz (Y*D'+Y'*D)
  have aN:=hJ hv
  have aF:=hJ (show Nk (19200*576+19200*576) v by rw [←hv]; exact nk_add (nk_mul HA.out.1.2 HB.out.2) (nk_mul HB.out.1.2 HA.out.2))
  have Wv:=hJ (show IntKind.i64.wrap (Y*D'+Y'*D)=v by rw [hv]; exact i6_wrap (nk_i6 aF.out (by decide)))
  clear hv
  obtain ⟨d,hd⟩:=nmz (2*D*D')
  have aG:=hJ hd
  have aH:=hJ (show Nk (2*576*576) d by rw [←hd]; exact (nk_mul (nk_mul (show Nk 2 2 by unfold Nk; omega) HA.out.2) HB.out.2))
  have Wd:=hJ (show IntKind.i64.wrap (2*D*D')=d by rw [hd]; exact i6_wrap (nk_i6 aH.out (by decide)))
  clear hd
  obtain ⟨x1,aB⟩:=nmz (((w.alloc (.cells #[.int .i64 X,.int .i64 Y,.int .i64 D] 32)).alloc (.cells #[.int .i64 X',.int .i64 Y',.int .i64 D'] 32)).alloc (.cells #[.int .i64 0,.int .i64 0,.int .i64 0] 32))
  have aO:=hJ (show Below w.heap.size w x1 by rw [←aB]; exact ((((Below.refl _ _).alloc (Nat.le_refl _) _).alloc (by simp only [World.size_alloc]; omega) _).alloc (by simp only [World.size_alloc]; omega) _))
  have aC:=hJ (show BX 32 x1 w.heap.size #[.int .i64 X,.int .i64 Y,.int .i64 D] by rw [←aB]; exact (((BX.at rfl).alloc _).alloc _))
  have aD:=hJ (show BX 32 x1 (w.heap.size+1) #[.int .i64 X',.int .i64 Y',.int .i64 D'] by rw [←aB]; exact ((BX.at (by simp only [World.size_alloc])).alloc _))
  have aP:=hJ (show BX 32 x1 (w.heap.size+2) #[.int .i64 0,.int .i64 0,.int .i64 0] by rw [←aB]; exact (BX.at (by simp only [World.size_alloc])))
  have aQ:=hJ (show w.heap.size≤w.heap.size+2 by omega)
  have aR:=aC.out.cell 0 rfl
  have aS:=aD.out.cell 2 rfl
  have aT:IntKind.i64.wrap (X*D')=X*D':=i6_wrap (nk_i6 (nk_mul HA.out.1.1 HB.out.2) (by decide))
  have aU:=aD.out.cell 0 rfl
  have aV:=aC.out.cell 2 rfl
  have aW:IntKind.i64.wrap (X'*D)=X'*D:=i6_wrap (nk_i6 (nk_mul HB.out.1.1 HA.out.2) (by decide))
  have aX:=Wu.out
  have aY:=aC.out.cell 1 rfl
  have aZ:=aD.out.cell 2 rfl
  have bA:IntKind.i64.wrap (Y*D')=Y*D':=i6_wrap (nk_i6 (nk_mul HA.out.1.2 HB.out.2) (by decide))
  have bB:=aD.out.cell 1 rfl
  have bC:=aC.out.cell 2 rfl
  have bD:IntKind.i64.wrap (Y'*D)=Y'*D:=i6_wrap (nk_i6 (nk_mul HB.out.1.2 HA.out.2) (by decide))
  have bE:=Wv.out
  have bF:=aC.out.cell 2 rfl
  have bG:IntKind.i64.wrap (2*D)=2*D:=i6_wrap (nk_i6 (nk_mul (show Nk 2 2 by unfold Nk; omega) HA.out.2) (by decide))
  have bH:=aD.out.cell 2 rfl
  have bJ:=Wd.out
  go_enter Tryz.func46,Tryz.ntmps46
  go_wp2_with fail
  clear aB aR aS aT aU aV aW aX aY aZ bA bB bC bD bE bF bG bH bJ
  refine (make2_any u v d x1 (by rw [←aG.out]; exact aL.out) (by have:=aE.out; unfold Nk at this; omega) (by have:=aF.out; unfold Nk at this; omega) (by have:=aH.out; unfold Nk at this; omega)).mono ?_
  rintro e w12 ⟨A,B,C,rfl,hm1,hm2,hb⟩
  have aI:=hJ hb
  clear hb
  have bK:=hJ (And.intro hm1 hm2)
  clear hm1 hm2
  have aA:=hJ (BX.new aP.out aI.out)
  have bL:=aA.out.frozen 0
  have bM:=aA.out.cell 0 rfl
  have bN:=aA.out.frozen 1
  have bO:=aA.out.cell 1 rfl
  have bP:=aA.out.frozen 2
  have bQ:=aA.out.cell 2 rfl
  obtain ⟨x13,aJ⟩:=nmz (World.setCell (World.setCell (World.setCell w12 ⟨w.heap.size+2,0,none⟩ (.int .i64 A)) ⟨w.heap.size+2,1,none⟩ (.int .i64 B)) ⟨w.heap.size+2,2,none⟩ (.int .i64 C))
  have aK:=hJ (show sto w12 (w.heap.size+2) 0 [.int .i64 A,.int .i64 B,.int .i64 C]=x13 from aJ)
  have bR:=hJ (show BX 32 x13 (w.heap.size+2) #[.int .i64 A,.int .i64 B,.int .i64 C] by rw [←aK.out]; exact BX.put aA.out _ _)
  have bS:=hJ (show Below w.heap.size w x13 by rw [←aK.out]; exact below_sto (bt aO.out aI.out) aQ.out _ _)
  go_wp2
  clear bL bM bN bO bP bQ aJ
  exact bodyPost_ret (results_cell_row rfl _ _ _ _ _ _ _ rfl bR.out Tryz.underlying32 rfl R_size) rfl ⟨A,B,C,rfl,by rw [aM.out,aN.out,aG.out]; exact bK.out,bS.out⟩
theorem betweenv_any {ax ay bx by' cx cy da db dc:Int} {a0 a1 a2 a3 a4 a5 a6 a7:Value} {b0 b1 b2 b3 b4 b5 b6 b7:Value} {c0 c1 c2 c3 c4 c5 c6 c7:Value} (w:World) (ha:PTq w a0 a1 a2 a3 a4 a5 a6 a7 ax ay da) (hb:PTq w b0 b1 b2 b3 b4 b5 b6 b7 bx by' db) (hc:PTq w c0 c1 c2 c3 c4 c5 c6 c7 cx cy dc) (za:Pz ax ay da) (zb:Pz bx by' db) (zc:Pz cx cy dc) :
    Calls Tryz.prog 47 #[.agg #[a0,a1,a2,a3,a4,a5,a6,a7],.agg #[b0,b1,b2,b3,b4,b5,b6,b7],.agg #[c0,c1,c2,c3,c4,c5,c6,c7]] w fun e w'=>e=.returned (.tuple #[.bool (btV ax ay da bx by' db cx cy dc),.int .i64 0])∧Below w.heap.size w w':=by
  obtain ⟨⟨sa,Aa,na,ca,ta,Ba,ma,ka,rfl,rfl,rfl,rfl,pa⟩,⟨sa',Aa',na',ca',ta',Ba',ma',ka',rfl,rfl,rfl,rfl,pa'⟩⟩:=ha
  obtain ⟨⟨sb,Ab,nb,cb,tb,Bb,mb,kb,rfl,rfl,rfl,rfl,pb⟩,⟨sb',Ab',nb',cb',tb',Bb',mb',kb',rfl,rfl,rfl,rfl,pb'⟩⟩:=hb
  obtain ⟨⟨sc,Ac,nc,cc,tc,Bc,mc,kc,rfl,rfl,rfl,rfl,pc⟩,⟨sc',Ac',nc',cc',tc',Bc',mc',kc',rfl,rfl,rfl,rfl,pc'⟩⟩:=hc
  exact betweenz_any ax ay da bx by' db cx cy dc sa Aa na ca ta Ba ma ka sa' Aa' na' ca' ta' Ba' ma' ka' sb Ab nb cb tb Bb mb kb sb' Ab' nb' cb' tb' Bb' mb' kb' sc Ac nc cc tc Bc mc kc sc' Ac' nc' cc' tc' Bc' mc' kc' w pa pa' pb pb' pc pc' za zb zc
end Go.Proofs.YteggneaefggbmaaGreat
