/- Contract of the reference's Make. Conditions: as each statement has them. -/
import Derived.Test.YtdgicnhadecldaaGreatKB2
import Derived.Test.YtdgicnhadecldaaGreatKB5
import Derived.Test.YtdgicnhadecldaaGreatKDA
import Derived.Test.YtdgicnhadecldaaGreatKFD
import Derived.Test.YtdgicnhadecldaaGreatKQL
import Derived.Test.YtdgicnhadecldaaGreatKYA
namespace Go.Proofs.YtdgicnhadecldaaGreat
open Go.RowKit
attribute [local go_sem ↓] Go.wp_at_zero Go.wp_at_succ
set_option linter.unusedVariables false
set_option linter.unusedSimpArgs false
set_option maxRecDepth 100000 in
set_option maxHeartbeats 1600000 in
theorem rmaken_any (x y d:Int) (w:World) (hd:d < 0) (hx : -1099511627776≤x∧x≤1099511627776) (hy : -1099511627776≤y∧y≤1099511627776) (hdb : -1099511627776≤d∧d≤1099511627776) :
  Calls Tryz.prog 29 #[.int .i64 x,.int .i64 y,.int .i64 d] w (fun e w'=>∃ X Y D:Int,e=.returned (.agg #[.int .i64 X,.int .i64 Y,.int .i64 D])∧MkZ x y d X Y D∧Below w.heap.size w w'):=by
 obtain ⟨xn,hxn⟩:=nmz (-x)
 obtain ⟨yn,hyn⟩:=nmz (-y)
 obtain ⟨dn,hdn⟩:=nmz (-d)
 obtain ⟨g,X,Y,D,g0,hg,ex,ey,ed,D0,hR⟩:=mkR_of (x:=xn) (y:=yn) (d:=dn) (by omega)
 have HN:=hJ (show IntKind.i64.wrap (-x)=xn∧IntKind.i64.wrap (-y)=yn∧IntKind.i64.wrap (-d)=dn from ⟨by rw [hxn]; exact IntWalk.i64_in _ (by omega),by rw [hyn]; exact IntWalk.i64_in _ (by omega),by rw [hdn]; exact IntWalk.i64_in _ (by omega)⟩)
 have HB:=hJ (show (-1099511627776≤xn∧xn≤1099511627776)∧(-1099511627776≤yn∧yn≤1099511627776)∧(-1099511627776≤dn∧dn≤1099511627776) by omega)
 obtain ⟨gm,hgm⟩:∃ z:Int,((Nat.gcd xn.natAbs yn.natAbs:Nat):Int)=z:=⟨_,rfl⟩
 have aI:=hJ hgm
 have aJ:=hJ (show -1099511627776≤gm∧gm≤1099511627776 by
  rw [←hgm]
  by_cases c:xn.natAbs=0
  ·rw [c,Nat.gcd_zero_left]; have:=HB.out.2.1; omega
  have:=Nat.gcd_le_left yn.natAbs (Nat.pos_of_ne_zero c); have:=HB.out.1; omega)
 have HG:=hJ (show ((Nat.gcd gm.natAbs dn.natAbs:Nat):Int)=g by rw [←hgm,Int.natAbs_natCast]; exact hg)
 have HQ:=hJ (show IntKind.i64.wrap (xn.tdiv g)=X∧IntKind.i64.wrap (yn.tdiv g)=Y∧IntKind.i64.wrap (dn.tdiv g)=D from by
  have hb:=HB.out
  rw [ex,ey,ed] at hb ⊢
  exact ⟨(quo_in g0 hb.1).1,(quo_in g0 hb.2.1).1,(quo_in g0 hb.2.2).1⟩)
 have HZ:=hJ (show MkZ x y d X Y D from by
  obtain ⟨G,hG,a1,a2,a3,a4⟩:=hR
  exact ⟨-G,by omega,by rw [Int.neg_mul,←a1,←hxn]; omega,by rw [Int.neg_mul,←a2,←hyn]; omega,by rw [Int.neg_mul,←a3,←hdn]; omega,D0,a4⟩)
 have aK:=hJ g0
 have HD:=hJ hd
 clear hxn hyn hdn hg ex ey ed hR hgm g0 D0 hd hx hy
 obtain ⟨x1,aB⟩:=nmz (w.alloc (.cells #[.int .i64 0,.int .i64 0,.int .i64 0] 47))
 have aC:=hJ (show Below w.heap.size w x1 by rw [←aB]; exact ((Below.refl _ _).alloc (Nat.le_refl _) _))
 have aL:=hJ (show BX 47 x1 w.heap.size #[.int .i64 0,.int .i64 0,.int .i64 0] by rw [←aB]; exact (BX.at rfl))
 have aH:=hJ (show w.heap.size≤w.heap.size by omega)
 have hdd:decide (d < 0)=true:=decide_eq_true HD.out
 have hn1:=HN.out.1
 have hn2:=HN.out.2.1
 have hn3:=HN.out.2.2
 go_enter Tryz.func29,Tryz.ntmps29
 go_wp2_with fail
 clear aB hn1 hn2 hn3
 refine (rcommon_any xn yn x1 HB.out.1 HB.out.2.1).mono ?_
 rw [aI.out]
 rintro e w2 ⟨rfl,rfl⟩
 go_wp2_with fail
 refine (rcommon_any gm dn x1 aJ.out HB.out.2.2).mono ?_
 rw [HG.out]
 rintro e w3 ⟨rfl,rfl⟩
 have hg0:=aK.out
 have hgn:(g == 0)=false:=by simp; omega
 have aM:Hid (∀ w',Below x1.heap.size x1 w'→(fun w':World=>Below w.heap.size w w') w'):=hJ (fun w' hb=>(bt aC.out hb))
 go_wp2_with fail
 obtain ⟨v4,hv4⟩:=nmz (World.drew x1)
 have aD:=hJ (show Below x1.heap.size x1 v4 by rw [←hv4]; exact (Below.refl _ _).drew)
 refine whd aM hv4 (fun hHeld=>?_)
 clear hv4
 refine tq 0 ?_
 refine tq 1 ?_
 try simp only [PT]
 refine tk 2 (.int .i64 X) ?_ ?_
 ·intro w hSw
  (try dsimp only at hSw)
  go_simp
  rw [HQ.out.1,if_neg (by omega)]
 refine tq 3 ?_
 refine tq 4 ?_
 try simp only [PT]
 refine tk 5 (.int .i64 Y) ?_ ?_
 ·intro w hSw
  (try dsimp only at hSw)
  go_simp
  rw [HQ.out.2.1,if_neg (by omega)]
 refine tq 6 ?_
 refine tq 7 ?_
 try simp only [PT]
 refine tk 8 (.int .i64 D) ?_ ?_
 ·intro w hSw
  (try dsimp only at hSw)
  go_simp
  rw [HQ.out.2.2,if_neg (by omega)]
 refine tq 9 ?_
 try simp only [PT]
 refine ryy [10] ?_
 refine .cons rfl (fun K hK=>?_) .nil
 have aA:=hJ (BX.new aL.out aD.out)
 have z5_0:=aA.out.cell 0 rfl
 have y5_0:=aA.out.frozen 0
 have z5_1:=aA.out.cell 1 rfl
 have y5_1:=aA.out.frozen 1
 have z5_2:=aA.out.cell 2 rfl
 have y5_2:=aA.out.frozen 2
 have z5:=aA.out.lt
 go_simp
 obtain ⟨v5,hV⟩:=nmz (World.setCell (World.setCell (World.setCell v4 ⟨w.heap.size,0,none⟩ (.int .i64 X)) ⟨w.heap.size,1,none⟩ (.int .i64 Y)) ⟨w.heap.size,2,none⟩ (.int .i64 D))
 rw [hV]
 have aG:=hJ (show sto v4 w.heap.size 0 [.int .i64 X,.int .i64 Y,.int .i64 D]=v5 from hV)
 clear hV z5 z5_0 y5_0 z5_1 y5_1 z5_2 y5_2
 have aO:=hJ (show Below w.heap.size w v5 by rw [←aG.out]; exact below_sto (bt aC.out aD.out) aH.out _ _)
 clear hHeld
 refine hK.out _ _ (aO.out) (fun hHeld=>?_)
 clear hK K
 try simp only [PT]
 refine wpAnyH_done (by kernel_rfl) ?_ _
 clear hHeld
 have aR:=hJ (show BX 47 v5 w.heap.size #[.int .i64 X,.int .i64 Y,.int .i64 D] by rw [←aG.out]; exact BX.put aA.out _ _)
 have aS:=hJ (show Below w.heap.size w v5 by rw [←aG.out]; exact below_sto (bt aC.out aD.out) aH.out _ _)
 go_wp2
 exact bodyPost_ret (results_cell_row rfl _ _ _ _ _ _ _ rfl aR.out Tryz.underlying47 rfl (by kernel_rfl)) rfl ⟨_,_,_,rfl,HZ.out,aS.out⟩
theorem rmakez_any (x y d:Int) (w:World) (hd:d≠0) (hx : -1099511627776≤x∧x≤1099511627776) (hy : -1099511627776≤y∧y≤1099511627776) (hdb : -1099511627776≤d∧d≤1099511627776) :
  Calls Tryz.prog 29 #[.int .i64 x,.int .i64 y,.int .i64 d] w (fun e w'=>∃ X Y D:Int,e=.returned (.agg #[.int .i64 X,.int .i64 Y,.int .i64 D])∧MkZ x y d X Y D∧Below w.heap.size w w'):=by
 rcases (show d < 0∨0 < d by omega) with h | h
 ·exact rmaken_any x y d w h hx hy hdb
 ·refine (make_any x y d w h hx hy hdb).mono ?_
  rintro e w' ⟨X,Y,D,rfl,⟨G,hG,a1,a2,a3,a4⟩,hD,hb⟩
  exact ⟨X,Y,D,rfl,⟨G,by omega,a1,a2,a3,hD,a4⟩,hb⟩
end Go.Proofs.YtdgicnhadecldaaGreat
