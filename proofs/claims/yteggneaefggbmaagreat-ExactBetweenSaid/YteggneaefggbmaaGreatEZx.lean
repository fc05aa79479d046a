/- The rest of a text. -/
import Derived.Test.YteggneaefggbmaaGreatEV
import Derived.Test.YteggneaefggbmaaGreatEW
import Derived.Test.YteggneaefggbmaaGreatEZ
namespace Go.Proofs.YteggneaefggbmaaGreat
set_option maxRecDepth 100000
set_option maxHeartbeats 12800000
open Go.RowKit
attribute [local go_sem ↓] Go.wp_at_zero Go.wp_at_succ
set_option linter.unusedVariables false
set_option linter.unusedSimpArgs false
theorem rcommon2_any (a b:Int) (w:World) (ha : -1125899906842624≤a∧a≤1125899906842624) (hb : -1125899906842624≤b∧b≤1125899906842624) :
  Calls Tryz.prog 147 #[.int .i64 a,.int .i64 b] w fun e w'=>e=.returned (.int .i64 (Nat.gcd a.natAbs b.natAbs:Nat))∧w=w':=by
 obtain ⟨G,hG⟩:∃ g,Nat.gcd a.natAbs b.natAbs=g:=⟨_,rfl⟩
 have HG:=hJ hG
 rw [hG]
 clear hG
 have hna:IntKind.i64.wrap (-a) = -a:=IntWalk.i64_in _ (by omega)
 have hnb:IntKind.i64.wrap (-b) = -b:=IntWalk.i64_in _ (by omega)
 obtain ⟨x,hx⟩:∃ x:Nat,a.natAbs=x:=⟨_,rfl⟩
 obtain ⟨y,hy⟩:∃ y:Nat,b.natAbs=y:=⟨_,rfl⟩
 have aA:=hJ (And.intro hx hy)
 go_enter Tryz.func147,Tryz.ntmps147
 by_cases h1:a < 0 <;> by_cases h2:b < 0
 all_goals
  go_wp2_with fail
  clear hna hnb
  go_loopw [0,1] (fun ta tb wr=>∃ p q:Nat,ta=.int .i64 (p:Int)∧tb=.int .i64 (q:Int)∧Hid (Nat.gcd p q=G)∧p≤1125899906842624∧q≤1125899906842624∧wr=w) (fun _ tb _=>(intOf tb).toNat)
  case atStart=>exact ⟨x,y,by congr 1; omega,by congr 1; omega,hJ (by rw [←HG.out,aA.out.1,aA.out.2]),by omega,by omega,rfl⟩
  case round =>
   obtain ⟨p,q,rfl,rfl,hg,hp,hq,rfl⟩:=hrel
   by_cases h0:q=0
   ·subst h0
    have HE:=hJ (show p=G by rw [←hg.out,Nat.gcd_zero_right])
    go_wp2
    go_ret
    exact ⟨by rw [HE.out]; rfl,rfl⟩
   ·have hq0:(0:Int) < (q:Int):=by omega
    have hr:p % q < q:=Nat.mod_lt _ (by omega)
    have e1:(p:Int) % (q:Int)=((p % q:Nat):Int):=rfl
    have e2:IntKind.i64.wrap ((p:Int) % (q:Int))=((p % q:Nat):Int):=by rw [e1]; exact IntWalk.i64_in _ (by omega)
    have e3:IntKind.i64.wrap ((p:Int).tmod (q:Int))=((p % q:Nat):Int):=by rw [Int.tmod_eq_emod_of_nonneg (by omega)]; exact e2
    go_wp2
    go_roundw
    case rel=>exact ⟨q,p % q,by go_num,by first | rfl | go_num,hJ (by rw [←hg.out,Nat.gcd_comm p q,Nat.gcd_rec q p]; exact Nat.gcd_comm _ _),by omega,by omega,by first | rfl | trivial⟩
    case measure=>simp [intOf]; omega
theorem quo2_in {g X:Int} (hg:0 < g) (h : -1125899906842624≤g*X∧g*X≤1125899906842624):IntKind.i64.wrap ((g*X).tdiv g)=X∧(-1125899906842624≤X∧X≤1125899906842624):=by
 have e:(g*X).tdiv g=X:=by rw [Int.mul_comm]; exact Int.mul_tdiv_cancel _ (by omega)
 have b:X.natAbs≤(g*X).natAbs:=by rw [Int.natAbs_mul]; exact Nat.le_mul_of_pos_left _ (by omega)
 have b2 : -1125899906842624≤X∧X≤1125899906842624:=by omega
 rw [e]
 exact ⟨IntWalk.i64_in _ (by omega),b2⟩
theorem make2_any (x y d:Int) (w:World) (hd0:0 < d) (hx : -1125899906842624≤x∧x≤1125899906842624) (hy : -1125899906842624≤y∧y≤1125899906842624) (hd : -1125899906842624≤d∧d≤1125899906842624) :
  Calls Tryz.prog 75 #[.int .i64 x,.int .i64 y,.int .i64 d] w fun e w'=>∃ X Y D:Int,e=.returned (.agg #[.int .i64 X,.int .i64 Y,.int .i64 D])∧(MkR x y d X Y D∧Nat.gcd (Nat.gcd X.natAbs Y.natAbs) D.natAbs=1)∧0 < D∧Below w.heap.size w w':=by
 obtain ⟨g,X,Y,D,g0,hg,rfl,rfl,rfl,D0,hR⟩:=mkR_of (x:=x) (y:=y) (d:=d) hd0
 have hG1:Nat.gcd (Nat.gcd X.natAbs Y.natAbs) D.natAbs=1:=by
  have h:=hg
  rw [Int.natAbs_mul,Int.natAbs_mul,Int.natAbs_mul,Nat.gcd_mul_left,Nat.gcd_mul_left] at h
  refine Nat.eq_of_mul_eq_mul_left (show 0 < g.natAbs by omega) ?_
  omega
 have HR:=hJ (And.intro hR hG1)
 have HB:=hJ (And.intro hx (And.intro hy hd))
 have HG:=hJ hg
 have aD:=hJ (show -1125899906842624≤((Nat.gcd (g*X).natAbs (g*Y).natAbs:Nat):Int)∧((Nat.gcd (g*X).natAbs (g*Y).natAbs:Nat):Int)≤1125899906842624 by
  refine ⟨by omega,?_⟩
  by_cases h0:(g*X).natAbs=0
  ·rw [h0,Nat.gcd_zero_left]; omega
  have:=Nat.le_of_dvd (by omega) (Nat.gcd_dvd_left (g*X).natAbs (g*Y).natAbs); omega)
 obtain ⟨e1,b1⟩:=quo2_in g0 hx
 obtain ⟨e2,b2⟩:=quo2_in g0 hy
 obtain ⟨e3,b3⟩:=quo2_in g0 hd
 obtain ⟨x',hx'⟩:=nmz (g*X)
 obtain ⟨y',hy'⟩:=nmz (g*Y)
 obtain ⟨d',hd'⟩:=nmz (g*D)
 have HE:=hJ (And.intro e1 (And.intro e2 e3))
 rw [hx',hy',hd'] at HE
 rw [hx',hy',hd'] at HR
 rw [hx',hy',hd'] at HB
 rw [hx',hy',hd'] at HG
 rw [hx',hy'] at aD
 rw [hx',hy',hd']
 have hd9:0 < d':=by rw [←hd']; exact hd0
 have hg9:g≠0:=by omega
 clear hR hG1 hx hy hd hd0 e1 e2 e3 b1 b2 b3 hx' hy' hd' hg
 obtain ⟨W,hW⟩:∃ W,w.alloc (.cells #[.int .i64 0,.int .i64 0,.int .i64 0] 32)=W:=⟨_,rfl⟩
 have HK:=hJ (show Below w.heap.size w W by rw [←hW]; exact (Below.refl _ w).alloc (Nat.le_refl _) _)
 have HZ:=hJ (show P3 32 W w.heap.size (.int .i64 0) (.int .i64 0) (.int .i64 0) by rw [←hW]; exact P3.lit _ _ _ _ _)
 obtain ⟨h,hh⟩:∃ h,w.heap.size=h:=⟨_,rfl⟩
 rw [hh] at HZ
 have HH:=hJ hh
 go_enter Tryz.func75,Tryz.ntmps75
 go_wp2_with fail
 clear hh
 refine (rcommon2_any x' y' W HB.out.1 HB.out.2.1).mono ?_
 rintro e w1 ⟨rfl,rfl⟩
 go_wp2_with fail
 refine (rcommon2_any _ d' W aD.out HB.out.2.2).mono ?_
 rw [Int.natAbs_natCast,HG.out]
 rintro e w1 ⟨rfl,rfl⟩
 have q1:=HE.out.1
 have q2:=HE.out.2.1
 have q3:=HE.out.2.2
 go_upto_region 6 with fail
 clear hW
 have aF:=hJ HK.out
 obtain ⟨v0,hv0⟩:=nmz (World.drew W)
 have aB:=hJ (show Below W.heap.size W v0 by rw [←hv0]; exact (Below.refl _ _).drew)
 have aC:=hJ (bt aF.out aB.out)
 have aA:=hJ (HZ.out.new aB.out)
 refine wp_region_held_drew (S:=(fun w':World=>Below w.heap.size w w')) (by kernel_rfl) ?_ (fun hHeld=>?_)
 ·rw [hv0]
  exact aC.out
 rw [hv0] at hHeld ⊢
 clear hv0 aB
 refine tq 0 ?_
 refine tq 1 ?_
 refine tq 2 ?_
 refine tq 3 ?_
 refine tq 4 ?_
 refine tq 5 ?_
 refine tq 6 ?_
 refine tq 7 ?_
 refine tq 8 ?_
 refine tq 9 ?_
 try simp only [PT]
 refine ryy [10] ?_
 refine .cons rfl (fun K hK=>?_) .nil
 obtain ⟨z0,z1,z2⟩:=aA.out.cells
 have y0:=aA.out.frozen 0
 have y1:=aA.out.frozen 1
 have y2:=aA.out.frozen 2
 have z9:=aA.out.lt
 go_simp
 obtain ⟨v1,hV⟩:=nmz (World.setCell (World.setCell (World.setCell v0 ⟨h,0,none⟩ (.int .i64 X)) ⟨h,1,none⟩ (.int .i64 Y)) ⟨h,2,none⟩ (.int .i64 D))
 rw [hV]
 have aE:=hJ (show Below w.heap.size w v1 by rw [←hV]; exact below_box3 aC.out ((show w.heap.size≤h by rw [HH.out]; exact Nat.le_refl _)) _ _ _)
 have aG:=hJ (show P3 32 v1 h (.int .i64 X) (.int .i64 Y) (.int .i64 D) by rw [←hV]; exact aA.out.all (.int .i64 X) (.int .i64 Y) (.int .i64 D))
 clear hHeld
 refine hK.out _ _ (aE.out) (fun hHeld=>?_)
 clear hK K hV z9 z0 z1 z2 y0 y1 y2 aC aA
 try simp only [PT]
 refine wpAnyH_done (by kernel_rfl) ?_ _
 clear hHeld
 have HF:=hJ aG.out
 have aH:=hJ aE.out
 go_wp2_with fail
 exact bodyPost_ret (results_cell_row rfl _ _ _ _ _ _ _ rfl HF.out Tryz.underlying32 rfl R_size) rfl ⟨X,Y,D,rfl,HR.out,D0,aH.out⟩
/-- What the reference's Area returns: the area in lowest terms. -/
def RetAr (N M:Int) (w:World) (e:Ending) (w':World):Prop:=∃ X D:Int,e=.returned (.tuple #[.int .i64 X,.int .i64 D])∧(Low X D∧X*M=N*D)∧(I6 X∧I6 D)∧Below w.heap.size w w'
theorem ar_low {N M X Y D:Int} (hM:0 < M) (h:(MkR N 0 M X Y D∧Nat.gcd (Nat.gcd X.natAbs Y.natAbs) D.natAbs=1)∧0 < D):Low X D∧X*M=N*D:=by
 obtain ⟨⟨⟨g,hg,e1,e2,e3,_⟩,h1⟩,hD⟩:=h
 have hy:Y=0:=by
  rcases Int.mul_eq_zero.1 e2.symm with h | h
  ·omega
  exact h
 subst hy
 rw [Int.natAbs_zero,Nat.gcd_zero_right] at h1
 refine ⟨⟨hD,h1⟩,?_⟩
 subst e1 e3
 ac_rfl
theorem mk_bnd {g X x:Int} (hg:0 < g) (e:x=g*X):X.natAbs≤x.natAbs:=mk_le_abs hg e
theorem rarea_any (ax ay da bx by' db cx cy dc:Int) (w:World) (ha:Pq ax ay da) (hb0:Pq bx by' db) (hc0:Pq cx cy dc) :
  Calls Tryz.prog 33 #[.agg #[.int .i64 ax,.int .i64 ay,.int .i64 da],.agg #[.int .i64 bx,.int .i64 by',.int .i64 db],.agg #[.int .i64 cx,.int .i64 cy,.int .i64 dc]] w (RetAr (arN ax ay da bx by' db cx cy dc) (da*da*db*dc) w):=by
 have aF:=hJ ha
 have aI:=hJ hb0
 have aJ:=hJ hc0
 have HA:=hJ (pq_nk ha)
 have HB:=hJ (pq_nk hb0)
 have HC:=hJ (pq_nk hc0)
 clear ha hb0 hc0
 obtain ⟨u1,hu1⟩:=nmz (bx*da - ax*db)
 have Ku1:=hJ (show Nk 22118400 u1 by rw [←hu1]; exact (nk_sub (nk_mul HB.out.1.1 HA.out.2) (nk_mul HA.out.1.1 HB.out.2)))
 have Eu1:=hJ hu1
 have Wu1:=hJ (show IntKind.i64.wrap (bx*da - ax*db)=u1 by rw [hu1]; exact i6_wrap (nk_i6 Ku1.out (by decide)))
 clear hu1
 obtain ⟨u2,hu2⟩:=nmz (cy*da - ay*dc)
 have Ku2:=hJ (show Nk 22118400 u2 by rw [←hu2]; exact (nk_sub (nk_mul HC.out.1.2 HA.out.2) (nk_mul HA.out.1.2 HC.out.2)))
 have Eu2:=hJ hu2
 have Wu2:=hJ (show IntKind.i64.wrap (cy*da - ay*dc)=u2 by rw [hu2]; exact i6_wrap (nk_i6 Ku2.out (by decide)))
 clear hu2
 obtain ⟨u3,hu3⟩:=nmz (by'*da - ay*db)
 have Ku3:=hJ (show Nk 22118400 u3 by rw [←hu3]; exact (nk_sub (nk_mul HB.out.1.2 HA.out.2) (nk_mul HA.out.1.2 HB.out.2)))
 have Eu3:=hJ hu3
 have Wu3:=hJ (show IntKind.i64.wrap (by'*da - ay*db)=u3 by rw [hu3]; exact i6_wrap (nk_i6 Ku3.out (by decide)))
 clear hu3
 obtain ⟨u4,hu4⟩:=nmz (cx*da - ax*dc)
 have Ku4:=hJ (show Nk 22118400 u4 by rw [←hu4]; exact (nk_sub (nk_mul HC.out.1.1 HA.out.2) (nk_mul HA.out.1.1 HC.out.2)))
 have Eu4:=hJ hu4
 have Wu4:=hJ (show IntKind.i64.wrap (cx*da - ax*dc)=u4 by rw [hu4]; exact i6_wrap (nk_i6 Ku4.out (by decide)))
 clear hu4
 obtain ⟨N,hN⟩:=nmz (u1*u2 - u3*u4)
 have KN:=hJ (show Nk 978447237120000 N by rw [←hN]; exact (nk_sub (nk_mul Ku1.out Ku2.out) (nk_mul Ku3.out Ku4.out)))
 have WN:=hJ (show IntKind.i64.wrap (u1*u2 - u3*u4)=N by rw [hN]; exact i6_wrap (nk_i6 KN.out (by decide)))
 have EN:=hJ (show arN ax ay da bx by' db cx cy dc=N by rw [←hN,←Eu1.out,←Eu2.out,←Eu3.out,←Eu4.out]; rfl)
 clear hN
 obtain ⟨M,hM⟩:=nmz (da*da*db*dc)
 have hM0:0 < M:=by rw [←hM]; exact Int.mul_pos (Int.mul_pos (Int.mul_pos aF.out.1.1 aF.out.1.1) aI.out.1.1) aJ.out.1.1
 have KM:=hJ (show Nk 110075314176 M by rw [←hM]; exact nk_mul (nk_mul (nk_mul HA.out.2 HA.out.2) HB.out.2) HC.out.2)
 have WM:=hJ (show IntKind.i64.wrap (da*da*db*dc)=M by rw [hM]; exact i6_wrap (nk_i6 KM.out (by decide)))
 have aG:=hJ hM0
 have EM:=hJ hM
 clear hM hM0
 obtain ⟨x1,aB⟩:=nmz (((w.alloc (.cells #[.int .i64 ax,.int .i64 ay,.int .i64 da] 32)).alloc (.cells #[.int .i64 bx,.int .i64 by',.int .i64 db] 32)).alloc (.cells #[.int .i64 cx,.int .i64 cy,.int .i64 dc] 32))
 have aK:=hJ (show Below w.heap.size w x1 by rw [←aB]; exact ((((Below.refl _ _).alloc (Nat.le_refl _) _).alloc (by simp only [World.size_alloc]; omega) _).alloc (by simp only [World.size_alloc]; omega) _))
 have aA:=hJ (show BX 32 x1 w.heap.size #[.int .i64 ax,.int .i64 ay,.int .i64 da] by rw [←aB]; exact (((BX.at rfl).alloc _).alloc _))
 have aC:=hJ (show BX 32 x1 (w.heap.size+1) #[.int .i64 bx,.int .i64 by',.int .i64 db] by rw [←aB]; exact ((BX.at (by simp only [World.size_alloc])).alloc _))
 have aD:=hJ (show BX 32 x1 (w.heap.size+2) #[.int .i64 cx,.int .i64 cy,.int .i64 dc] by rw [←aB]; exact (BX.at (by simp only [World.size_alloc])))
 have aL:=aC.out.cell 0 rfl
 have aM:=aA.out.cell 2 rfl
 have aN:IntKind.i64.wrap (bx*da)=bx*da:=i6_wrap (nk_i6 (nk_mul HB.out.1.1 HA.out.2) (by decide))
 have aO:=aA.out.cell 0 rfl
 have aP:=aC.out.cell 2 rfl
 have aQ:IntKind.i64.wrap (ax*db)=ax*db:=i6_wrap (nk_i6 (nk_mul HA.out.1.1 HB.out.2) (by decide))
 have aR:=Wu1.out
 have aS:=aD.out.cell 1 rfl
 have aT:=aA.out.cell 2 rfl
 have aU:IntKind.i64.wrap (cy*da)=cy*da:=i6_wrap (nk_i6 (nk_mul HC.out.1.2 HA.out.2) (by decide))
 have aV:=aA.out.cell 1 rfl
 have aW:=aD.out.cell 2 rfl
 have aX:IntKind.i64.wrap (ay*dc)=ay*dc:=i6_wrap (nk_i6 (nk_mul HA.out.1.2 HC.out.2) (by decide))
 have aY:=Wu2.out
 have aZ:IntKind.i64.wrap (u1*u2)=u1*u2:=i6_wrap (nk_i6 (nk_mul Ku1.out Ku2.out) (by decide))
 have bA:=aC.out.cell 1 rfl
 have bB:=aA.out.cell 2 rfl
 have bC:IntKind.i64.wrap (by'*da)=by'*da:=i6_wrap (nk_i6 (nk_mul HB.out.1.2 HA.out.2) (by decide))
 have bD:=aA.out.cell 1 rfl
 have bE:=aC.out.cell 2 rfl
 have bF:IntKind.i64.wrap (ay*db)=ay*db:=i6_wrap (nk_i6 (nk_mul HA.out.1.2 HB.out.2) (by decide))
 have bG:=Wu3.out
 have bH:=aD.out.cell 0 rfl
 have bJ:=aA.out.cell 2 rfl
 have bK:IntKind.i64.wrap (cx*da)=cx*da:=i6_wrap (nk_i6 (nk_mul HC.out.1.1 HA.out.2) (by decide))
 have bL:=aA.out.cell 0 rfl
 have bM:=aD.out.cell 2 rfl
 have bN:IntKind.i64.wrap (ax*dc)=ax*dc:=i6_wrap (nk_i6 (nk_mul HA.out.1.1 HC.out.2) (by decide))
 have bO:=Wu4.out
 have bP:IntKind.i64.wrap (u3*u4)=u3*u4:=i6_wrap (nk_i6 (nk_mul Ku3.out Ku4.out) (by decide))
 have bQ:=WN.out
 have bR:=aA.out.cell 2 rfl
 have bS:=aA.out.cell 2 rfl
 have bT:IntKind.i64.wrap (da*da)=da*da:=i6_wrap (nk_i6 (nk_mul HA.out.2 HA.out.2) (by decide))
 have bU:=aC.out.cell 2 rfl
 have bV:IntKind.i64.wrap ((da*da)*db)=(da*da)*db:=i6_wrap (nk_i6 (nk_mul (nk_mul HA.out.2 HA.out.2) HB.out.2) (by decide))
 have bW:=aD.out.cell 2 rfl
 have bX:=WM.out
 go_enter Tryz.func33,Tryz.ntmps33
 go_wp2_with fail
 clear aB aL aM aN aO aP aQ aR aS aT aU aV aW aX aY aZ bA bB bC bD bE bF bG bH bJ bK bL bM bN bO bP bQ bR bS bT bU bV bW bX
 refine (make2_any N 0 M x1 aG.out (by have:=KN.out; unfold Nk at this; omega) (by omega) (by have:=KM.out; unfold Nk at this; omega)).mono ?_
 rintro e w22 ⟨X,Y,D,rfl,hm1,hm2,hb⟩
 have bY:=hJ hb
 clear hb
 have bZ:=hJ (ar_low aG.out ⟨hm1,hm2⟩)
 have cA:=hJ (show I6 X∧I6 D by
  obtain ⟨⟨g,hg,e1,e2,e3,_⟩,_⟩:=hm1
  have m1:=mk_bnd hg e1
  have m3:=mk_bnd hg e3
  have k1:=KN.out
  have k2:=KM.out
  unfold Nk at k1 k2
  unfold I6
  omega)
 clear hm1 hm2
 obtain ⟨x23,aE⟩:=nmz (w22.alloc (.cells #[.int .i64 X,.int .i64 Y,.int .i64 D] 32))
 have cB:=hJ (show Below w22.heap.size w22 x23 by rw [←aE]; exact ((Below.refl _ _).alloc (Nat.le_refl _) _))
 have aH:=hJ (show BX 32 x23 w22.heap.size #[.int .i64 X,.int .i64 Y,.int .i64 D] by rw [←aE]; exact (BX.at rfl))
 have cC:Hid (∀ w',Below x23.heap.size x23 w'→(fun w':World=>w'.cell? ⟨w22.heap.size,0,none⟩=some (.int .i64 X)∧w'.cell? ⟨w22.heap.size,2,none⟩=some (.int .i64 D)∧Below x23.heap.size x23 w') w'):=hJ (fun w' hb=>⟨(BX.new aH.out hb).cell 0 rfl,(BX.new aH.out hb).cell 2 rfl,hb⟩)
 go_wp2_with fail
 clear aE
 obtain ⟨v24,hv24⟩:=nmz (World.drew x23)
 have cD:=hJ (show Below x23.heap.size x23 v24 by rw [←hv24]; exact (Below.refl _ _).drew)
 refine whd cC hv24 (fun hHeld=>?_)
 clear hv24
 refine tq 0 ?_
 refine tq 1 ?_
 refine tq 2 ?_
 refine tq 3 ?_
 refine tq 4 ?_
 refine tq 5 ?_
 try simp only [PT]
 refine wpAnyH_done (by kernel_rfl) ?_ _
 clear hHeld
 have cE:=hJ (bt (bt (bt aK.out bY.out) cB.out) cD.out)
 go_wp2
 go_ret2
 exact ⟨X,D,rfl,by rw [EN.out,EM.out]; exact bZ.out,cA.out,cE.out⟩
def dtY (ax ay da bx by' db cx cy dc:Int):Int:=ax*(by'*dc - cy*db) - ay*(bx*dc - cx*db)+da*(bx*cy - cx*by')
theorem arY_dt (ax ay da bx by' db cx cy dc:Int):arN ax ay da bx by' db cx cy dc=da*dtY ax ay da bx by' db cx cy dc:=by unfold arN dtY; grind
theorem dtY_cyc (ax ay da bx by' db cx cy dc:Int):dtY bx by' db cx cy dc ax ay da=dtY ax ay da bx by' db cx cy dc:=by unfold dtY; grind
theorem dtY_swap (ax ay da bx by' db cx cy dc:Int):dtY bx by' db ax ay da cx cy dc = -dtY ax ay da bx by' db cx cy dc:=by unfold dtY; grind
theorem cmY_less {a b:Int} (h:a < b):cmpI a b = -1:=by unfold cmpI; rw [if_pos h]
theorem cmY_same {a b:Int} (h:a=b):cmpI a b=0:=by unfold cmpI; rw [if_neg (by omega),if_neg (by omega)]
theorem cmY_more {a b:Int} (h:b < a):cmpI a b=1:=by unfold cmpI; rw [if_neg (by omega),if_pos h]
theorem low_mkY {p q x d:Int} (h:Low p q) (hd:0 < d) (e:p*d=x*q):p=mkP x d∧q=mkQ x d:=by
 obtain ⟨hl,he⟩:=mk_low x d hd
 refine low_eq h hl ?_
 refine Int.eq_of_mul_eq_mul_right (show d≠0 by omega) ?_
 rw [Int.mul_right_comm,e,Int.mul_right_comm,←he,Int.mul_right_comm]
theorem dd_pos {ax ay da bx by' db cx cy dc:Int} (ha:Pq ax ay da) (hb0:Pq bx by' db) (hc0:Pq cx cy dc):0 < (da*da*db*dc):=Int.mul_pos (Int.mul_pos (Int.mul_pos ha.1.1 ha.1.1) hb0.1.1) hc0.1.1
theorem dd_nk {ax ay da bx by' db cx cy dc:Int} (ha:Pq ax ay da) (hb0:Pq bx by' db) (hc0:Pq cx cy dc):Nk 110075314176 (da*da*db*dc):=nk_mul (nk_mul (nk_mul (pq_nk ha).2 (pq_nk ha).2) (pq_nk hb0).2) (pq_nk hc0).2
theorem arq_nk {ax ay da bx by' db cx cy dc:Int} (ha:Pq ax ay da) (hb0:Pq bx by' db) (hc0:Pq cx cy dc):Nk 978447237120000 (arN ax ay da bx by' db cx cy dc):=by
 obtain ⟨⟨a1,a2⟩,a3⟩:=pq_nk ha
 obtain ⟨⟨b1,b2⟩,b3⟩:=pq_nk hb0
 obtain ⟨⟨c1,c2⟩,c3⟩:=pq_nk hc0
 unfold arN
 exact nk_sub (nk_mul (nk_sub (nk_mul b1 a3) (nk_mul a1 b3)) (nk_sub (nk_mul c2 a3) (nk_mul a2 c3))) (nk_mul (nk_sub (nk_mul b2 a3) (nk_mul a2 b3)) (nk_sub (nk_mul c1 a3) (nk_mul a1 c3)))
/-- The numbers of the area of three points of the law's. -/
theorem ar_fit {ax ay da bx by' db cx cy dc:Int} (ha:Pq ax ay da) (hb0:Pq bx by' db) (hc0:Pq cx cy dc):(Low (mkP (arN ax ay da bx by' db cx cy dc) (da*da*db*dc)) (mkQ (arN ax ay da bx by' db cx cy dc) (da*da*db*dc))∧mkP (arN ax ay da bx by' db cx cy dc) (da*da*db*dc)*(da*da*db*dc)=(arN ax ay da bx by' db cx cy dc)*mkQ (arN ax ay da bx by' db cx cy dc) (da*da*db*dc))∧(I6 (mkP (arN ax ay da bx by' db cx cy dc) (da*da*db*dc))∧I6 (mkQ (arN ax ay da bx by' db cx cy dc) (da*da*db*dc))):=by
 have hM:=dd_pos ha hb0 hc0
 have k2:=dd_nk ha hb0 hc0
 have k1:=arq_nk ha hb0 hc0
 obtain ⟨N,hN⟩:=nmz ((arN ax ay da bx by' db cx cy dc))
 obtain ⟨M,hMM⟩:=nmz ((da*da*db*dc))
 rw [hMM] at hM k2 ⊢
 rw [hN] at k1 ⊢
 clear hN hMM
 obtain ⟨m1,m2⟩:=mk_le N M hM
 refine ⟨mk_low N M hM,?_⟩
 unfold Nk at k1 k2
 unfold I6
 omega
/-- The area from another point on. -/
theorem ar_cyc9 {ax ay da bx by' db cx cy dc:Int} (ha:Pq ax ay da) (hb0:Pq bx by' db) (hc0:Pq cx cy dc):mkP (arN bx by' db cx cy dc ax ay da) (db*db*dc*da)=mkP (arN ax ay da bx by' db cx cy dc) (da*da*db*dc)∧mkQ (arN bx by' db cx cy dc ax ay da) (db*db*dc*da)=mkQ (arN ax ay da bx by' db cx cy dc) (da*da*db*dc):=by
 obtain ⟨⟨l1,e1⟩,_⟩:=ar_fit hb0 hc0 ha
 obtain ⟨⟨l2,e2⟩,_⟩:=ar_fit ha hb0 hc0
 have hm:0 < da*db*dc:=Int.mul_pos (Int.mul_pos ha.1.1 hb0.1.1) hc0.1.1
 rw [arY_dt,dtY_cyc] at e1
 rw [arY_dt] at e2
 refine low_eq l1 l2 ?_
 have f1:mkP (arN bx by' db cx cy dc ax ay da) (db*db*dc*da)*(da*db*dc)=dtY ax ay da bx by' db cx cy dc*mkQ (arN bx by' db cx cy dc ax ay da) (db*db*dc*da):=by
  refine Int.eq_of_mul_eq_mul_left (show db≠0 by have:=hb0.1.1; omega) ?_
  rw [←Int.mul_assoc db (dtY ..) _,arY_dt,dtY_cyc,←e1]
  ac_rfl
 have f2:mkP (arN ax ay da bx by' db cx cy dc) (da*da*db*dc)*(da*db*dc)=dtY ax ay da bx by' db cx cy dc*mkQ (arN ax ay da bx by' db cx cy dc) (da*da*db*dc):=by
  refine Int.eq_of_mul_eq_mul_left (show da≠0 by have:=ha.1.1; omega) ?_
  rw [←Int.mul_assoc da (dtY ..) _,arY_dt,←e2]
  ac_rfl
 refine Int.eq_of_mul_eq_mul_right (show da*db*dc≠0 by omega) ?_
 rw [Int.mul_right_comm,f1,Int.mul_right_comm (mkP (arN ax ay da bx by' db cx cy dc) _),f2]
 ac_rfl
theorem ar_swap9 {ax ay da bx by' db cx cy dc:Int} (ha:Pq ax ay da) (hb0:Pq bx by' db):cmpI (arN bx by' db ax ay da cx cy dc) 0 = -cmpI (arN ax ay da bx by' db cx cy dc) 0:=by
 rw [arY_dt,arY_dt,dtY_swap,cm_pos hb0.1.1,cm_pos ha.1.1]
 rcases Int.lt_trichotomy (dtY ax ay da bx by' db cx cy dc) 0 with h | h | h
 ·rw [cmY_less h,cmY_more (by omega)]; rfl
 ·rw [cmY_same h,cmY_same (by omega)]; rfl
 ·rw [cmY_more h,cmY_less (by omega)]
theorem cm_wrap (a:Int):IntKind.i64.wrap (-cmpI a 0) = -cmpI a 0:=by
 rcases Int.lt_trichotomy a 0 with h | h | h
 ·rw [cmY_less h]; decide
 ·rw [cmY_same h]; decide
 ·rw [cmY_more h]; decide
theorem ar_sgn {ax ay da bx by' db cx cy dc:Int} (ha:Pq ax ay da) (hb0:Pq bx by' db) (hc0:Pq cx cy dc):cmpI (mkP (arN ax ay da bx by' db cx cy dc) (da*da*db*dc)) 0=cmpI (arN ax ay da bx by' db cx cy dc) 0:=by
 obtain ⟨⟨l1,e1⟩,_⟩:=ar_fit ha hb0 hc0
 exact sgn_small l1.1 (dd_pos ha hb0 hc0) e1
theorem sm_i6 {x:Int} (h:I6 x):smV x=x∧isSm x=true:=by
 have h1:isSm x=true:=by unfold isSm; unfold I6 at h; exact decide_eq_true (by omega)
 exact ⟨by unfold smV; rw [if_pos h1],h1⟩
theorem i6_lim {x:Int} (h:I6 x):x.natAbs < lim:=i64_lim (x:=x) (WalkArith.wf_i64 (by unfold I6 at h; omega))
theorem ar_fr {ax ay da bx by' db cx cy dc:Int} (ha:Pq ax ay da) (hb0:Pq bx by' db) (hc0:Pq cx cy dc):Fr (mkP (arN ax ay da bx by' db cx cy dc) (da*da*db*dc)) (mkQ (arN ax ay da bx by' db cx cy dc) (da*da*db*dc)):=⟨(ar_fit ha hb0 hc0).1.1,i6_lim (ar_fit ha hb0 hc0).2.1,i6_lim (ar_fit ha hb0 hc0).2.2⟩
theorem rareaq_any (ax ay da bx by' db cx cy dc:Int) (w:World) (ha:Pq ax ay da) (hb0:Pq bx by' db) (hc0:Pq cx cy dc) :
  Calls Tryz.prog 33 #[.agg #[.int .i64 ax,.int .i64 ay,.int .i64 da],.agg #[.int .i64 bx,.int .i64 by',.int .i64 db],.agg #[.int .i64 cx,.int .i64 cy,.int .i64 dc]] w fun e w'=>e=.returned (.tuple #[.int .i64 (mkP (arN ax ay da bx by' db cx cy dc) (da*da*db*dc)),.int .i64 (mkQ (arN ax ay da bx by' db cx cy dc) (da*da*db*dc))])∧Below w.heap.size w w':=by
 refine (rarea_any ax ay da bx by' db cx cy dc w ha hb0 hc0).mono ?_
 rintro e w1 ⟨X,D,rfl,⟨hl,he⟩,_,hb⟩
 obtain ⟨rfl,rfl⟩:=low_mkY hl (dd_pos ha hb0 hc0) he
 exact ⟨rfl,hb⟩
theorem dd_posz {ax ay da bx by' db cx cy dc:Int} (ha:Pz ax ay da) (hb0:Pz bx by' db) (hc0:Pz cx cy dc):0 < (da*da*db*dc):=Int.mul_pos (Int.mul_pos (Int.mul_pos ha.1.1 ha.1.1) hb0.1.1) hc0.1.1
theorem areaz_any (ax ay da bx by' db cx cy dc:Int) (s0:Bool) (A0:Option Addr) (n0 c0:Nat) (t0:Bool) (B0:Option Addr) (m0 d0:Nat) (s1:Bool) (A1:Option Addr) (n1 c1:Nat) (t1:Bool) (B1:Option Addr) (m1 d1:Nat) (s2:Bool) (A2:Option Addr) (n2 c2:Nat) (t2:Bool) (B2:Option Addr) (m2 d2:Nat) (s3:Bool) (A3:Option Addr) (n3 c3:Nat) (t3:Bool) (B3:Option Addr) (m3 d3:Nat) (s4:Bool) (A4:Option Addr) (n4 c4:Nat) (t4:Bool) (B4:Option Addr) (m4 d4:Nat) (s5:Bool) (A5:Option Addr) (n5 c5:Nat) (t5:Bool) (B5:Option Addr) (m5 d5:Nat) (w:World) (h0:PF w s0 A0 n0 c0 t0 B0 m0 d0 (mkP ax da) (mkQ ax da)) (h1:PF w s1 A1 n1 c1 t1 B1 m1 d1 (mkP ay da) (mkQ ay da)) (h2:PF w s2 A2 n2 c2 t2 B2 m2 d2 (mkP bx db) (mkQ bx db)) (h3:PF w s3 A3 n3 c3 t3 B3 m3 d3 (mkP by' db) (mkQ by' db)) (h4:PF w s4 A4 n4 c4 t4 B4 m4 d4 (mkP cx dc) (mkQ cx dc)) (h5:PF w s5 A5 n5 c5 t5 B5 m5 d5 (mkP cy dc) (mkQ cy dc)) (ha:Pz ax ay da) (hb0:Pz bx by' db) (hc0:Pz cx cy dc) :
  Calls Tryz.prog 32 #[.agg #[.bool s0,.slice A0 n0 c0,.bool t0,.slice B0 m0 d0,.bool s1,.slice A1 n1 c1,.bool t1,.slice B1 m1 d1],.agg #[.bool s2,.slice A2 n2 c2,.bool t2,.slice B2 m2 d2,.bool s3,.slice A3 n3 c3,.bool t3,.slice B3 m3 d3],.agg #[.bool s4,.slice A4 n4 c4,.bool t4,.slice B4 m4 d4,.bool s5,.slice A5 n5 c5,.bool t5,.slice B5 m5 d5]] w (RetFE (mkP (arN ax ay da bx by' db cx cy dc) (da*da*db*dc)) (mkQ (arN ax ay da bx by' db cx cy dc) (da*da*db*dc)) 0 w):=by
 have v0:=pz_vl ha
 have v1:=pz_vl hb0
 have v2:=pz_vl hc0
 obtain ⟨P0,hP0⟩:=nmz (adP (mkP bx db) (mkQ bx db) (-(mkP ax da)) (mkQ ax da))
 obtain ⟨Q0,hQ0⟩:=nmz (adQ (mkP bx db) (mkQ bx db) (-(mkP ax da)) (mkQ ax da))
 obtain ⟨C0,hC0⟩:=nmz (adC (mkP bx db) (mkQ bx db) (-(mkP ax da)) (mkQ ax da))
 obtain ⟨P1,hP1⟩:=nmz (adP (mkP cy dc) (mkQ cy dc) (-(mkP ay da)) (mkQ ay da))
 obtain ⟨Q1,hQ1⟩:=nmz (adQ (mkP cy dc) (mkQ cy dc) (-(mkP ay da)) (mkQ ay da))
 obtain ⟨C1,hC1⟩:=nmz (adC (mkP cy dc) (mkQ cy dc) (-(mkP ay da)) (mkQ ay da))
 obtain ⟨P2,hP2⟩:=nmz (muP P0 Q0 P1 Q1)
 obtain ⟨Q2,hQ2⟩:=nmz (muQ P0 Q0 P1 Q1)
 obtain ⟨C2,hC2⟩:=nmz (muC P0 Q0 P1 Q1)
 obtain ⟨P3,hP3⟩:=nmz (adP (mkP by' db) (mkQ by' db) (-(mkP ay da)) (mkQ ay da))
 obtain ⟨Q3,hQ3⟩:=nmz (adQ (mkP by' db) (mkQ by' db) (-(mkP ay da)) (mkQ ay da))
 obtain ⟨C3,hC3⟩:=nmz (adC (mkP by' db) (mkQ by' db) (-(mkP ay da)) (mkQ ay da))
 obtain ⟨P4,hP4⟩:=nmz (adP (mkP cx dc) (mkQ cx dc) (-(mkP ax da)) (mkQ ax da))
 obtain ⟨Q4,hQ4⟩:=nmz (adQ (mkP cx dc) (mkQ cx dc) (-(mkP ax da)) (mkQ ax da))
 obtain ⟨C4,hC4⟩:=nmz (adC (mkP cx dc) (mkQ cx dc) (-(mkP ax da)) (mkQ ax da))
 obtain ⟨P5,hP5⟩:=nmz (muP P3 Q3 P4 Q4)
 obtain ⟨Q5,hQ5⟩:=nmz (muQ P3 Q3 P4 Q4)
 obtain ⟨C5,hC5⟩:=nmz (muC P3 Q3 P4 Q4)
 obtain ⟨P6,hP6⟩:=nmz (adP P2 Q2 (-P5) Q5)
 obtain ⟨Q6,hQ6⟩:=nmz (adQ P2 Q2 (-P5) Q5)
 obtain ⟨C6,hC6⟩:=nmz (adC P2 Q2 (-P5) Q5)
 obtain ⟨g1,g2,g3,_⟩:=area_small (ax:=ax) (ay:=ay) (bx:=bx) (by':=by') (cx:=cx) (cy:=cy) ⟨ha.1.1,hb0.1.1,hc0.1.1⟩ v0.1 v0.2 v1.1 v1.2 v2.1 v2.2 ⟨hP0,hQ0,hC0⟩ ⟨hP1,hQ1,hC1⟩ ⟨hP2,hQ2,hC2⟩ ⟨hP3,hQ3,hC3⟩ ⟨hP4,hQ4,hC4⟩ ⟨hP5,hQ5,hC5⟩ ⟨hP6,hQ6,hC6⟩
 obtain ⟨k1,k2⟩:=low_mkY g2 (dd_posz ha hb0 hc0) g3
 have er:RetFE (mkP (arN ax ay da bx by' db cx cy dc) (da*da*db*dc)) (mkQ (arN ax ay da bx by' db cx cy dc) (da*da*db*dc)) 0 w=RetFE (feP (feV [C0,C1,C2,C3,C4,C5,C6]) P6) (feQ (feV [C0,C1,C2,C3,C4,C5,C6]) Q6) (feV [C0,C1,C2,C3,C4,C5,C6]) w:=by rw [←k1,←k2,feP,feQ,if_pos g1,if_pos g1,g1]
 rw [er]
 clear er k1 k2 g1 g2 g3
 exact area_any (mkP ax da) (mkQ ax da) (mkP ay da) (mkQ ay da) (mkP bx db) (mkQ bx db) (mkP by' db) (mkQ by' db) (mkP cx dc) (mkQ cx dc) (mkP cy dc) (mkQ cy dc) P0 Q0 C0 P1 Q1 C1 P2 Q2 C2 P3 Q3 C3 P4 Q4 C4 P5 Q5 C5 P6 Q6 C6 s0 A0 n0 c0 t0 B0 m0 d0 s1 A1 n1 c1 t1 B1 m1 d1 s2 A2 n2 c2 t2 B2 m2 d2 s3 A3 n3 c3 t3 B3 m3 d3 s4 A4 n4 c4 t4 B4 m4 d4 s5 A5 n5 c5 t5 B5 m5 d5 w h0 h1 h2 h3 h4 h5 (vl_frY v0.1) (vl_frY v0.2) (vl_frY v1.1) (vl_frY v1.2) (vl_frY v2.1) (vl_frY v2.2) ⟨hP0,hQ0,hC0⟩ ⟨hP1,hQ1,hC1⟩ ⟨hP2,hQ2,hC2⟩ ⟨hP3,hQ3,hC3⟩ ⟨hP4,hQ4,hC4⟩ ⟨hP5,hQ5,hC5⟩ ⟨hP6,hQ6,hC6⟩
theorem areav_any {ax ay bx by' cx cy da db dc:Int} {a0 a1 a2 a3 a4 a5 a6 a7:Value} {b0 b1 b2 b3 b4 b5 b6 b7:Value} {c0 c1 c2 c3 c4 c5 c6 c7:Value} (w:World) (ha:PTq w a0 a1 a2 a3 a4 a5 a6 a7 ax ay da) (hb:PTq w b0 b1 b2 b3 b4 b5 b6 b7 bx by' db) (hc:PTq w c0 c1 c2 c3 c4 c5 c6 c7 cx cy dc) (za:Pz ax ay da) (zb:Pz bx by' db) (zc:Pz cx cy dc) :
  Calls Tryz.prog 32 #[.agg #[a0,a1,a2,a3,a4,a5,a6,a7],.agg #[b0,b1,b2,b3,b4,b5,b6,b7],.agg #[c0,c1,c2,c3,c4,c5,c6,c7]] w (RetFE (mkP (arN ax ay da bx by' db cx cy dc) (da*da*db*dc)) (mkQ (arN ax ay da bx by' db cx cy dc) (da*da*db*dc)) 0 w):=by
 obtain ⟨⟨sa,Aa,na,ca,ta,Ba,ma,ka,rfl,rfl,rfl,rfl,pa⟩,⟨sa',Aa',na',ca',ta',Ba',ma',ka',rfl,rfl,rfl,rfl,pa'⟩⟩:=ha
 obtain ⟨⟨sb,Ab,nb,cb,tb,Bb,mb,kb,rfl,rfl,rfl,rfl,pb⟩,⟨sb',Ab',nb',cb',tb',Bb',mb',kb',rfl,rfl,rfl,rfl,pb'⟩⟩:=hb
 obtain ⟨⟨sc,Ac,nc,cc,tc,Bc,mc,kc,rfl,rfl,rfl,rfl,pc⟩,⟨sc',Ac',nc',cc',tc',Bc',mc',kc',rfl,rfl,rfl,rfl,pc'⟩⟩:=hc
 exact areaz_any ax ay da bx by' db cx cy dc sa Aa na ca ta Ba ma ka sa' Aa' na' ca' ta' Ba' ma' ka' sb Ab nb cb tb Bb mb kb sb' Ab' nb' cb' tb' Bb' mb' kb' sc Ac nc cc tc Bc mc kc sc' Ac' nc' cc' tc' Bc' mc' kc' w pa pa' pb pb' pc pc' za zb zc
end Go.Proofs.YteggneaefggbmaaGreat
