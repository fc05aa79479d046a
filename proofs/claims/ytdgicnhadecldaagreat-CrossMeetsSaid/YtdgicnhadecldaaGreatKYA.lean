/- What else is needed of the texts below. Conditions: as each statement has them. -/
import Derived.Below
import Derived.Deep.Draws
import Derived.IntWalk
import Derived.Laws.AppendOwnNone
import Derived.Laws.BitsAllLaws
import Derived.Laws.BytesString
import Derived.Laws.Cells
import Derived.Laws.NewBlocks
import Derived.Laws.OwnMore
import Derived.Laws.Rows
import Derived.Laws.Slices
import Derived.Lib.AppendStr
import Derived.Lib.ConvBytes
import Derived.Lib.Hide
import Derived.Maps.AppendAt
import Derived.OwnWalk
import Derived.WideShapes
import Derived.Test.YtdgicnhadecldaaGreatKAE
import Derived.Test.YtdgicnhadecldaaGreatKB2
import Derived.Test.YtdgicnhadecldaaGreatKB5
import Derived.Test.YtdgicnhadecldaaGreatKCA
import Derived.Test.YtdgicnhadecldaaGreatKCC
import Derived.Test.YtdgicnhadecldaaGreatKCF
import Derived.Test.YtdgicnhadecldaaGreatKEA
import Derived.Test.YtdgicnhadecldaaGreatKEV
import Derived.Test.YtdgicnhadecldaaGreatKEZ
import Derived.Test.YtdgicnhadecldaaGreatKFD
import Derived.Test.YtdgicnhadecldaaGreatKFF
import Derived.Test.YtdgicnhadecldaaGreatKPF
import Derived.Test.YtdgicnhadecldaaGreatKQL

namespace Go.Proofs.YtdgicnhadecldaaGreat
open Go.RowKit
end Go.Proofs.YtdgicnhadecldaaGreat

namespace Go.Proofs.YtdgicnhadecldaaGreat
open Go.RowKit

end Go.Proofs.YtdgicnhadecldaaGreat

namespace Go.Proofs.YtdgicnhadecldaaGreat
open Go.RowKit

end Go.Proofs.YtdgicnhadecldaaGreat

namespace Go.Proofs.YtdgicnhadecldaaGreat
open Go.RowKit

section
variable {k:IntKind} {w w':World} {B B':Nat} {sv:Value} {xs:List Int}
end
end Go.Proofs.YtdgicnhadecldaaGreat

namespace Go.Proofs.YtdgicnhadecldaaGreat
open Go.RowKit

section
variable {t t':Nat→Prop} {w w' w'':World}
end

section
variable {k:IntKind} {w w':World} {ok ok' t:Nat→Prop} {sv:Value} {xs:List Int} {B:Nat}
end

end Go.Proofs.YtdgicnhadecldaaGreat

namespace Go.Proofs.YtdgicnhadecldaaGreat

section
variable {B:Nat}
end
end Go.Proofs.YtdgicnhadecldaaGreat

namespace Go.Proofs.YtdgicnhadecldaaGreat

end Go.Proofs.YtdgicnhadecldaaGreat

namespace Go.Proofs.YtdgicnhadecldaaGreat

end Go.Proofs.YtdgicnhadecldaaGreat

namespace Go.Proofs.YtdgicnhadecldaaGreat
open Go.RowKit

section
variable {k:IntKind} {ok ok':Nat→Prop} {w w':World} {v:Value} {l:List Nat} {a:Option Addr} {n c:Nat}
end
section
variable {k:IntKind} {w w':World} {g:Nat} {t:TypeId} {l:List Nat}
end
end Go.Proofs.YtdgicnhadecldaaGreat

namespace Go.Proofs.YtdgicnhadecldaaGreat

section
variable {B:Nat} {la lb o:List Nat} {i k c:Nat}
end
end Go.Proofs.YtdgicnhadecldaaGreat

namespace Go.Proofs.YtdgicnhadecldaaGreat

section
variable {B:Nat}
end
end Go.Proofs.YtdgicnhadecldaaGreat

namespace Go.Proofs.YtdgicnhadecldaaGreat

section
variable {B x b m n nq j:Nat} {r oq:List Nat}
end
end Go.Proofs.YtdgicnhadecldaaGreat

namespace Go.Proofs.YtdgicnhadecldaaGreat
end Go.Proofs.YtdgicnhadecldaaGreat



namespace Go.Proofs.YtdgicnhadecldaaGreat
open Go.RowKit
attribute [local go_sem ↓] Go.wp_at_zero Go.wp_at_succ
/-- Neither coordinate is greater. -/
def ngV (p q u v p' q' u' v':Int):Bool:=decide (p*q'≤p'*q∧u*v'≤u'*v)
end Go.Proofs.YtdgicnhadecldaaGreat


namespace Go.Proofs.YtdgicnhadecldaaGreat
open Go.RowKit
attribute [local go_sem ↓] Go.wp_at_zero Go.wp_at_succ
/-- A point lies in a box. -/
def inV (a b x y p q u v:Int):Bool:=ngV a 1 b 1 p q u v && ngV p q u v x 1 y 1
end Go.Proofs.YtdgicnhadecldaaGreat


namespace Go.Proofs.YtdgicnhadecldaaGreat
open Go.RowKit
attribute [local go_sem ↓] Go.wp_at_zero Go.wp_at_succ
section
variable {t:TypeId} {w w':World} {b:Nat} {v0 v1 v2:Value}
end
theorem below_box3 {w0 w:World} {B b:Nat} (h:Below B w0 w) (hb:B≤b) (u0 u1 u2:Value):Below B w0 (((w.setCell ⟨b,0,none⟩ u0).setCell ⟨b,1,none⟩ u1).setCell ⟨b,2,none⟩ u2) :=
 ((h.setCell (p:=⟨b,0,none⟩) hb u0).setCell (p:=⟨b,1,none⟩) hb u1).setCell (p:=⟨b,2,none⟩) hb u2
theorem R_size:(Tryz.prog.info? 47).map (·.size)=some 3:=by kernel_rfl
set_option maxRecDepth 100000 in
set_option maxHeartbeats 6400000 in
theorem rof_any (x y:Int) (w:World) :
  Calls Tryz.prog 26 #[.agg #[.int .i64 x,.int .i64 y]] w fun e w'=>e=.returned (.agg #[.int .i64 x,.int .i64 y,.int .i64 1])∧Below w.heap.size w w':=by
 obtain ⟨W,hW⟩:∃ W,(w.alloc (.cells #[.int .i64 x,.int .i64 y] 23)).alloc (.cells #[.int .i64 0,.int .i64 0,.int .i64 0] 47)=W:=⟨_,rfl⟩
 have HK:=hJ (show Below w.heap.size w W by rw [←hW]; exact ((Below.refl _ w).alloc (Nat.le_refl _) _).alloc (by simp) _)
 have HA:=hJ (show P2 23 W w.heap.size (.int .i64 x) (.int .i64 y) by rw [←hW]; exact (P2.lit w _ _ _).alloc _)
 have HZ:=hJ (show P3 47 W (w.heap.size+1) (.int .i64 0) (.int .i64 0) (.int .i64 0) by
  rw [←hW]
  have h0:=P3.lit (w.alloc (.cells #[.int .i64 x,.int .i64 y] 23)) 47 (.int .i64 0) (.int .i64 0) (.int .i64 0)
  rw [World.size_alloc] at h0
  exact h0)
 obtain ⟨a0,a1⟩:=HA.out.cells
 obtain ⟨z0,z1,z2⟩:=HZ.out.cells
 have f0:=HZ.out.frozen 0
 have f1:=HZ.out.frozen 1
 have f2:=HZ.out.frozen 2
 go_enter Tryz.func26,Tryz.ntmps26
 go_wp2
 exact bodyPost_ret (results_cell_row rfl _ _ _ _ _ _ _ rfl (HZ.out.all (.int .i64 x) (.int .i64 y) (.int .i64 1)) Tryz.underlying47 rfl R_size) rfl ⟨rfl,below_box3 HK.out (by omega) _ _ _⟩
set_option maxRecDepth 100000 in
set_option maxHeartbeats 6400000 in
theorem rcommon_any (a b:Int) (w:World) (ha : -1099511627776≤a∧a≤1099511627776) (hb : -1099511627776≤b∧b≤1099511627776) :
  Calls Tryz.prog 61 #[.int .i64 a,.int .i64 b] w fun e w'=>e=.returned (.int .i64 (Nat.gcd a.natAbs b.natAbs:Nat))∧w=w':=by
 obtain ⟨G,hG⟩:∃ g,Nat.gcd a.natAbs b.natAbs=g:=⟨_,rfl⟩
 have HG:=hJ hG
 rw [hG]
 clear hG
 have hna:IntKind.i64.wrap (-a) = -a:=IntWalk.i64_in _ (by omega)
 have hnb:IntKind.i64.wrap (-b) = -b:=IntWalk.i64_in _ (by omega)
 obtain ⟨x,hx⟩:∃ x:Nat,a.natAbs=x:=⟨_,rfl⟩
 obtain ⟨y,hy⟩:∃ y:Nat,b.natAbs=y:=⟨_,rfl⟩
 have aA:=hJ (And.intro hx hy)
 go_enter Tryz.func61,Tryz.ntmps61
 by_cases h1:a < 0 <;> by_cases h2:b < 0
 all_goals
  go_wp2_with fail
  clear hna hnb
  go_loopw [0,1] (fun ta tb wr=>∃ p q:Nat,ta=.int .i64 (p:Int)∧tb=.int .i64 (q:Int)∧Hid (Nat.gcd p q=G)∧p≤1099511627776∧q≤1099511627776∧wr=w) (fun _ tb _=>(intOf tb).toNat)
  case atStart=>exact ⟨x,y,by congr 1; omega,by congr 1; omega,hJ (by rw [←HG.out,aA.out.1,aA.out.2]),by omega,by omega,rfl⟩
  case round =>
   obtain ⟨p,q,rfl,rfl,hg,hp,hq,rfl⟩:=hrel
   by_cases h0:q=0
   ·subst h0
    have HE:=hJ (show p=G by rw [←hg.out,Nat.gcd_zero_right])
    go_wp2
    go_ret
    exact ⟨by rw [HE.out]; rfl,rfl⟩
   ·have hq0:(0:Int) < (q:Int):=by omega
    have hr:p % q < q:=Nat.mod_lt _ (by omega)
    have e1:(p:Int) % (q:Int)=((p % q:Nat):Int):=rfl
    have e2:IntKind.i64.wrap ((p:Int) % (q:Int))=((p % q:Nat):Int):=by rw [e1]; exact IntWalk.i64_in _ (by omega)
    have e3:IntKind.i64.wrap ((p:Int).tmod (q:Int))=((p % q:Nat):Int):=by rw [Int.tmod_eq_emod_of_nonneg (by omega)]; exact e2
    go_wp2
    go_roundw
    case rel=>exact ⟨q,p % q,by go_num,by first | rfl | go_num,hJ (by rw [←hg.out,Nat.gcd_comm p q,Nat.gcd_rec q p]; exact Nat.gcd_comm _ _),by omega,by omega,by first | rfl | trivial⟩
    case measure=>simp [intOf]; omega
/-- What Make returns: x / g, y / g, d / g. -/
def MkR (x y d X Y D:Int):Prop:=∃ g:Int,0 < g∧x=g*X∧y=g*Y∧d=g*D∧(D∣X→D∣Y→D=1)
theorem mkR_of {x y d:Int} (hd:0 < d):∃ g X Y D:Int,0 < g∧((Nat.gcd (Nat.gcd x.natAbs y.natAbs) d.natAbs:Nat):Int)=g∧x=g*X∧y=g*Y∧d=g*D∧0 < D∧MkR x y d X Y D:=by
 obtain ⟨G,hG⟩:∃ g,Nat.gcd (Nat.gcd x.natAbs y.natAbs) d.natAbs=g:=⟨_,rfl⟩
 have g0:0 < G:=by rw [←hG]; exact Nat.gcd_pos_of_pos_right _ (by omega)
 obtain ⟨X,hX⟩:(G:Int)∣x:=Int.ofNat_dvd_left.2 (by rw [←hG]; exact Nat.dvd_trans (Nat.gcd_dvd_left _ _) (Nat.gcd_dvd_left _ _))
 obtain ⟨Y,hY⟩:(G:Int)∣y:=Int.ofNat_dvd_left.2 (by rw [←hG]; exact Nat.dvd_trans (Nat.gcd_dvd_left _ _) (Nat.gcd_dvd_right _ _))
 obtain ⟨D,hD⟩:(G:Int)∣d:=Int.ofNat_dvd_left.2 (by rw [←hG]; exact Nat.gcd_dvd_right _ _)
 have D0:0 < D:=Int.pos_of_mul_pos_right (show 0 < (G:Int)*D by rw [←hD]; exact hd) (by omega)
 refine ⟨G,X,Y,D,by omega,by rw [hG],hX,hY,hD,D0,G,by omega,hX,hY,hD,fun h1 h2=>?_⟩
 obtain ⟨u,hu⟩:=h1
 obtain ⟨v,hv⟩:=h2
 have dx:(G*D.natAbs)∣x.natAbs:=⟨u.natAbs,by rw [hX,hu,Int.natAbs_mul,Int.natAbs_mul,Int.natAbs_natCast,Nat.mul_assoc]⟩
 have dy:(G*D.natAbs)∣y.natAbs:=⟨v.natAbs,by rw [hY,hv,Int.natAbs_mul,Int.natAbs_mul,Int.natAbs_natCast,Nat.mul_assoc]⟩
 have dd:(G*D.natAbs)∣d.natAbs:=⟨1,by rw [hD,Int.natAbs_mul,Int.natAbs_natCast,Nat.mul_one]⟩
 have dg:(G*D.natAbs)∣G:=by
  have:=Nat.dvd_gcd (Nat.dvd_gcd dx dy) dd
  rwa [hG] at this
 have hle:=Nat.le_of_dvd g0 dg
 have:D.natAbs≤1:=Nat.le_of_mul_le_mul_left (show G*D.natAbs≤G*1 by omega) g0
 omega
theorem quo_in {g X:Int} (hg:0 < g) (h : -1099511627776≤g*X∧g*X≤1099511627776):IntKind.i64.wrap ((g*X).tdiv g)=X∧(-1099511627776≤X∧X≤1099511627776):=by
 have e:(g*X).tdiv g=X:=by rw [Int.mul_comm]; exact Int.mul_tdiv_cancel _ (by omega)
 have b:X.natAbs≤(g*X).natAbs:=by rw [Int.natAbs_mul]; exact Nat.le_mul_of_pos_left _ (by omega)
 have b2 : -1099511627776≤X∧X≤1099511627776:=by omega
 rw [e]
 exact ⟨IntWalk.i64_in _ (by omega),b2⟩
set_option maxRecDepth 100000 in
set_option maxHeartbeats 6400000 in
theorem make_any (x y d:Int) (w:World) (hd0:0 < d) (hx : -1099511627776≤x∧x≤1099511627776) (hy : -1099511627776≤y∧y≤1099511627776) (hd : -1099511627776≤d∧d≤1099511627776) :
  Calls Tryz.prog 29 #[.int .i64 x,.int .i64 y,.int .i64 d] w fun e w'=>∃ X Y D:Int,e=.returned (.agg #[.int .i64 X,.int .i64 Y,.int .i64 D])∧MkR x y d X Y D∧0 < D∧Below w.heap.size w w':=by
 obtain ⟨g,X,Y,D,g0,hg,rfl,rfl,rfl,D0,hR⟩:=mkR_of (x:=x) (y:=y) (d:=d) hd0
 have HR:=hJ hR
 have HB:=hJ (And.intro hx (And.intro hy hd))
 have HG:=hJ hg
 have aD:=hJ (show -1099511627776≤((Nat.gcd (g*X).natAbs (g*Y).natAbs:Nat):Int)∧((Nat.gcd (g*X).natAbs (g*Y).natAbs:Nat):Int)≤1099511627776 by
  refine ⟨by omega,?_⟩
  by_cases h0:(g*X).natAbs=0
  ·rw [h0,Nat.gcd_zero_left]; omega
  have:=Nat.le_of_dvd (by omega) (Nat.gcd_dvd_left (g*X).natAbs (g*Y).natAbs); omega)
 obtain ⟨e1,b1⟩:=quo_in g0 hx
 obtain ⟨e2,b2⟩:=quo_in g0 hy
 obtain ⟨e3,b3⟩:=quo_in g0 hd
 obtain ⟨x',hx'⟩:=nmz (g*X)
 obtain ⟨y',hy'⟩:=nmz (g*Y)
 obtain ⟨d',hd'⟩:=nmz (g*D)
 have HE:=hJ (And.intro e1 (And.intro e2 e3))
 rw [hx',hy',hd'] at HE
 rw [hx',hy',hd'] at HR
 rw [hx',hy',hd'] at HB
 rw [hx',hy',hd'] at HG
 rw [hx',hy'] at aD
 rw [hx',hy',hd']
 have hd9:0 < d':=by rw [←hd']; exact hd0
 have hg9:g≠0:=by omega
 clear hR hx hy hd hd0 e1 e2 e3 b1 b2 b3 hx' hy' hd' hg
 obtain ⟨W,hW⟩:∃ W,w.alloc (.cells #[.int .i64 0,.int .i64 0,.int .i64 0] 47)=W:=⟨_,rfl⟩
 have HK:=hJ (show Below w.heap.size w W by rw [←hW]; exact (Below.refl _ w).alloc (Nat.le_refl _) _)
 have HZ:=hJ (show P3 47 W w.heap.size (.int .i64 0) (.int .i64 0) (.int .i64 0) by rw [←hW]; exact P3.lit _ _ _ _ _)
 obtain ⟨h,hh⟩:∃ h,w.heap.size=h:=⟨_,rfl⟩
 rw [hh] at HZ
 have HH:=hJ hh
 go_enter Tryz.func29,Tryz.ntmps29
 go_wp2_with fail
 clear hh
 refine (rcommon_any x' y' W HB.out.1 HB.out.2.1).mono ?_
 rintro e w1 ⟨rfl,rfl⟩
 go_wp2_with fail
 refine (rcommon_any _ d' W aD.out HB.out.2.2).mono ?_
 rw [Int.natAbs_natCast,HG.out]
 rintro e w1 ⟨rfl,rfl⟩
 have q1:=HE.out.1
 have q2:=HE.out.2.1
 have q3:=HE.out.2.2
 go_upto_region 6 with fail
 clear hW
 have aH:=hJ HK.out
 obtain ⟨v0,hv0⟩:=nmz (World.drew W)
 have aB:=hJ (show Below W.heap.size W v0 by rw [←hv0]; exact (Below.refl _ _).drew)
 have aC:=hJ (bt aH.out aB.out)
 have aA:=hJ (HZ.out.new aB.out)
 refine wp_region_held_drew (S:=(fun w':World=>Below w.heap.size w w')) (by kernel_rfl) ?_ (fun hHeld=>?_)
 ·rw [hv0]
  exact aC.out
 rw [hv0] at hHeld ⊢
 clear hv0 aB
 refine tq 0 ?_
 refine tq 1 ?_
 refine tq 2 ?_
 refine tq 3 ?_
 refine tq 4 ?_
 refine tq 5 ?_
 refine tq 6 ?_
 refine tq 7 ?_
 refine tq 8 ?_
 refine tq 9 ?_
 try simp only [PT]
 refine ryy [10] ?_
 refine .cons rfl (fun K hK=>?_) .nil
 obtain ⟨z0,z1,z2⟩:=aA.out.cells
 have y0:=aA.out.frozen 0
 have y1:=aA.out.frozen 1
 have y2:=aA.out.frozen 2
 have z9:=aA.out.lt
 go_simp
 obtain ⟨v1,hV⟩:=nmz (World.setCell (World.setCell (World.setCell v0 ⟨h,0,none⟩ (.int .i64 X)) ⟨h,1,none⟩ (.int .i64 Y)) ⟨h,2,none⟩ (.int .i64 D))
 rw [hV]
 have aG:=hJ (show Below w.heap.size w v1 by rw [←hV]; exact below_box3 aC.out ((show w.heap.size≤h by rw [HH.out]; exact Nat.le_refl _)) _ _ _)
 have aI:=hJ (show P3 47 v1 h (.int .i64 X) (.int .i64 Y) (.int .i64 D) by rw [←hV]; exact aA.out.all (.int .i64 X) (.int .i64 Y) (.int .i64 D))
 clear hHeld
 refine hK.out _ _ (aG.out) (fun hHeld=>?_)
 clear hK K hV z9 z0 z1 z2 y0 y1 y2 aC aA
 try simp only [PT]
 refine wpAnyH_done (by kernel_rfl) ?_ _
 clear hHeld
 have HF:=hJ aI.out
 have aJ:=hJ aG.out
 go_wp2_with fail
 exact bodyPost_ret (results_cell_row rfl _ _ _ _ _ _ _ rfl HF.out Tryz.underlying47 rfl R_size) rfl ⟨X,Y,D,rfl,HR.out,D0,aJ.out⟩
end Go.Proofs.YtdgicnhadecldaaGreat


namespace Go.Proofs.YtdgicnhadecldaaGreat
open Go.RowKit
attribute [local go_sem ↓] Go.wp_at_zero Go.wp_at_succ
set_option maxRecDepth 100000 in
set_option maxHeartbeats 6400000 in
theorem rsign_any (n:Int) (w:World) :
  Calls Tryz.prog 127 #[.int .i64 n] w fun e w'=>e=.returned (.int .i64 (cmpI n 0))∧w=w':=by
 rcases cmpI_cases n 0 with ⟨h,hv⟩ | ⟨h,hv⟩ | ⟨h,hv⟩
 all_goals
  rw [hv]
  clear hv
  try subst h
  go_enter Tryz.func127,Tryz.ntmps127
  go_wp2
  go_ret
  exact ⟨rfl,rfl⟩
/-- The order of two points of the reference. -/
def rcV (X Y D X' Y' D':Int):Int:=if cmpI (X*D') (X'*D)=0 then cmpI (Y*D') (Y'*D) else cmpI (X*D') (X'*D)
end Go.Proofs.YtdgicnhadecldaaGreat


namespace Go.Proofs.YtdgicnhadecldaaGreat
open Go.RowKit
attribute [local go_sem ↓] Go.wp_at_zero Go.wp_at_succ
end Go.Proofs.YtdgicnhadecldaaGreat


namespace Go.Proofs.YtdgicnhadecldaaGreat
open Go.RowKit
attribute [local go_sem ↓] Go.wp_at_zero Go.wp_at_succ
set_option linter.unusedVariables false
set_option linter.unusedSimpArgs false
theorem cm_zero {a b:Int}:(cmpI a b=0)=(a=b):=by
 refine propext ⟨fun h=>?_,fun h=>?_⟩
 ·unfold cmpI at h
  split at h
  ·omega
  split at h <;> omega
 ·unfold cmpI; rw [if_neg (by omega),if_neg (by omega)]
end Go.Proofs.YtdgicnhadecldaaGreat


namespace Go.Proofs.YtdgicnhadecldaaGreat
open Go.RowKit
attribute [local go_sem ↓] Go.wp_at_zero Go.wp_at_succ
set_option linter.unusedVariables false
set_option linter.unusedSimpArgs false
end Go.Proofs.YtdgicnhadecldaaGreat


namespace Go.Proofs.YtdgicnhadecldaaGreat
open Go.RowKit
attribute [local go_sem ↓] Go.wp_at_zero Go.wp_at_succ
set_option linter.unusedVariables false
set_option linter.unusedSimpArgs false
/-- Whether a point lies on a segment, as On says. -/
def onV (ax ay bx by' x y z:Int):Bool:=inV (min ax bx) (min ay by') (max ax bx) (max ay by') (mkP x z) (mkQ x z) (mkP y z) (mkQ y z) && decide (cmpI (arN ax ay 1 bx by' 1 x y z) 0=0)
set_option maxRecDepth 100000 in
set_option maxHeartbeats 1600000 in
theorem ferr1_any (ax0 ay0 bx0 by0:Int) (g:Nat) (w:World) (hq:BX 25 w g #[.int .i64 ax0,.int .i64 ay0,.int .i64 bx0,.int .i64 by0]) (h0:(vdP (ax0,ay0)=0∧vdP (bx0,by0)=0)∧¬ (ax0=bx0∧ay0=by0)) :
  Calls Tryz.prog 41 #[.slice (some ⟨g,0,none⟩) 1 1] w fun e w'=>e=.returned (.int .i64 0)∧Below w.heap.size w w':=by
 have aK:=hJ hq
 have aA:=hJ h0
 clear hq h0
 go_enter Tryz.func41,Tryz.ntmps41
 go_wp2_with fail
 go_loopw [7] (fun tv wr=>∃ i:Nat,i≤1∧tv=.int .i64 (i:Int)∧Below w.heap.size w wr) (fun tv _=>1 - (intOf tv).toNat)
 case atStart=>exact ⟨0,by omega,rfl,Below.refl _ _⟩
 case round =>
  obtain ⟨i1,hi,rfl,hbel⟩:=hrel
  obtain ⟨wl1,rfl⟩:∃ W:World,W=wr:=⟨_,rfl⟩
  have aB:=hJ hbel
  clear hbel
  have hcs:i1=0∨i1=1:=by omega
  clear hi
  rcases hcs with rfl | rfl
  ·(try rw [show ((0:Nat):Int)=0 from rfl])
   have aL:=hJ (BX.new aK.out aB.out)
   obtain ⟨aM,aO,aR,aS⟩:=aL.out.c4 0 1 2 3 rfl rfl rfl rfl
   obtain ⟨x6,aC⟩:=nmz (wl1.alloc (.cells #[.int .i64 ax0,.int .i64 ay0,.int .i64 bx0,.int .i64 by0] 25))
   have aT:=hJ (show Below wl1.heap.size wl1 x6 by rw [←aC]; exact ((Below.refl _ _).alloc (Nat.le_refl _) _))
   have aD:=hJ (show BX 25 x6 wl1.heap.size #[.int .i64 ax0,.int .i64 ay0,.int .i64 bx0,.int .i64 by0] by rw [←aC]; exact (BX.at rfl))
   obtain ⟨aU,aV⟩:=aD.out.c2 0 1 rfl rfl
   go_wp2_with fail
   clear aM aO aR aS aC aU aV
   refine (valid_any ax0 ay0 x6).mono ?_
   rw [vd_c aA.out.1.1]
   rintro e w9 ⟨rfl,hb⟩
   have aG:=hJ hb
   clear hb
   have aH:=hJ (BX.new aD.out aG.out)
   obtain ⟨aW,aX⟩:=aH.out.c2 2 3 rfl rfl
   go_wp2_with fail
   clear aW aX
   refine (valid_any bx0 by0 w9).mono ?_
   rw [vd_c aA.out.1.2]
   rintro e w12 ⟨rfl,hb⟩
   have aI:=hJ hb
   clear hb
   have hne:=aA.out.2
   have aJ:=hJ (BX.new aH.out aI.out)
   obtain ⟨aY,aZ⟩:=aJ.out.c2 0 1 rfl rfl
   obtain ⟨bA,bB⟩:=aJ.out.c2 2 3 rfl rfl
   have bC:=hJ (bt (bt (bt aB.out aT.out) aG.out) aI.out)
   go_wp2_with fail
   clear hne aY aZ bA bB
   all_goals
    go_roundw
    case rel=>exact ⟨0+1,by omega,by go_num,bC.out⟩
    case measure=>simp [intOf] <;> omega
  ·(try rw [show ((1:Nat):Int)=1 from rfl])
   go_wp2
   go_ret
   exact ⟨rfl,aB.out⟩
end Go.Proofs.YtdgicnhadecldaaGreat


namespace Go.Proofs.YtdgicnhadecldaaGreat
open Go.RowKit
attribute [local go_sem ↓] Go.wp_at_zero Go.wp_at_succ
set_option linter.unusedVariables false
set_option linter.unusedSimpArgs false
/-- The ends in order. -/
def noV (ax ay bx by':Int):Value:=if 0 < pcV ax 1 ay 1 bx 1 by' 1 then .agg #[.int .i64 bx,.int .i64 by',.int .i64 ax,.int .i64 ay] else .agg #[.int .i64 ax,.int .i64 ay,.int .i64 bx,.int .i64 by']
set_option maxRecDepth 100000 in
set_option maxHeartbeats 1600000 in
theorem cnorm_any (ax ay bx by':Int) (w:World) (hv:(vdP (ax,ay)=0∧vdP (bx,by')=0)∧¬ (ax=bx∧ay=by')) :
  Calls Tryz.prog 14 #[.agg #[.int .i64 ax,.int .i64 ay,.int .i64 bx,.int .i64 by']] w fun e w'=>e=.returned (.tuple #[(noV ax ay bx by'),.int .i64 0])∧Below w.heap.size w w':=by
 have HV:=hJ hv
 have aA:=hJ (And.intro (vd_wf hv.1.1) (vd_wf hv.1.2))
 clear hv
 obtain ⟨cm,hcm⟩:=nmz (pcV ax 1 ay 1 bx 1 by' 1)
 have aG:=hJ hcm
 clear hcm
 obtain ⟨x1,aH⟩:=nmz ((w.alloc (.cells #[.int .i64 ax,.int .i64 ay,.int .i64 bx,.int .i64 by'] 25)).alloc (.cells #[.int .i64 0,.int .i64 0,.int .i64 0,.int .i64 0] 25))
 have aY:=hJ (show Below w.heap.size w x1 by rw [←aH]; exact (((Below.refl _ _).alloc (Nat.le_refl _) _).alloc (by simp only [World.size_alloc]; omega) _))
 have aS:=hJ (show BX 25 x1 w.heap.size #[.int .i64 ax,.int .i64 ay,.int .i64 bx,.int .i64 by'] by rw [←aH]; exact ((BX.at rfl).alloc _))
 have aZ:=hJ (show BX 25 x1 (w.heap.size+1) #[.int .i64 0,.int .i64 0,.int .i64 0,.int .i64 0] by rw [←aH]; exact (BX.at (by simp only [World.size_alloc])))
 have bA:=hJ (show w.heap.size≤w.heap.size+1 by omega)
 obtain ⟨bK,bL,bM,bN⟩:=aS.out.c4 0 1 2 3 rfl rfl rfl rfl
 obtain ⟨x6,aT⟩:=nmz (x1.alloc (.cells #[.int .i64 ax,.int .i64 ay,.int .i64 bx,.int .i64 by'] 25))
 have aI:=hJ (show Below x1.heap.size x1 x6 by rw [←aT]; exact ((Below.refl _ _).alloc (Nat.le_refl _) _))
 have bO:=hJ (show BX 25 x6 x1.heap.size #[.int .i64 ax,.int .i64 ay,.int .i64 bx,.int .i64 by'] by rw [←aT]; exact (BX.at rfl))
 go_enter Tryz.func14,Tryz.ntmps14
 go_wp2_with fail
 clear aH bK bL bM bN aT
 refine (ferr1_any ax ay bx by' x1.heap.size x6 bO.out HV.out).mono ?_
 rintro e w7 ⟨rfl,hb⟩
 have aJ:=hJ hb
 clear hb
 by_cases hc:0 < cm
 ·have hcz:decide (0 < cm)=true:=decide_eq_true hc
  have HO:=hJ hc
  clear hc
  have aD:=hJ (bt aI.out aJ.out)
  have aC:=hJ (BX.new aS.out aD.out)
  have aK:Hid (∀ w',Below w7.heap.size w7 w'→(fun w':World=>w'.cell? ⟨w.heap.size,0,none⟩=some (.int .i64 ax)∧w'.cell? ⟨w.heap.size,1,none⟩=some (.int .i64 ay)∧w'.cell? ⟨w.heap.size,2,none⟩=some (.int .i64 bx)∧w'.cell? ⟨w.heap.size,3,none⟩=some (.int .i64 by')∧Below w7.heap.size w7 w') w'):=hJ (fun w' hb=>⟨(BX.new aC.out hb).cell 0 rfl,(BX.new aC.out hb).cell 1 rfl,(BX.new aC.out hb).cell 2 rfl,(BX.new aC.out hb).cell 3 rfl,hb⟩)
  go_wp2_with fail
  obtain ⟨v8,hv8⟩:=nmz (World.drew w7)
  have bP:=hJ (show Below w7.heap.size w7 v8 by rw [←hv8]; exact (Below.refl _ _).drew)
  refine whd aK hv8 (fun hHeld=>?_)
  clear hv8
  refine tq 0 ?_
  refine tq 1 ?_
  refine tq 3 ?_
  refine tq 4 ?_
  try simp only [PT]
  refine ryy [2] ?_
  refine .cons rfl (fun K hK=>?_) .nil
  go_simp
  go_at_call 21
  refine (pof_any ax ay v8 aA.out.1.1 aA.out.1.2).mono ?_
  rintro e v9 ⟨s11,A11,n11,c11,t11,B11,m11,d11,s12,A12,n12,c12,t12,B12,m12,d12,rfl,hr11,hr12,hb⟩
  have bQ:=hJ hb
  have bR:=hJ hr11
  have bS:=hJ hr12
  clear hb hr11 hr12
  go_wp2_with fail
  have bB:=hJ (bt bP.out bQ.out)
  clear hHeld
  refine hK.out _ _ (aK.out _ bB.out) (fun hHeld=>?_)
  clear hK K
  try simp only [PT]
  refine ryy [5] ?_
  refine .cons rfl (fun K hK=>?_) .nil
  go_simp
  go_at_call 21
  refine (pof_any bx by' v9 aA.out.2.1 aA.out.2.2).mono ?_
  rintro e v10 ⟨s13,A13,n13,c13,t13,B13,m13,d13,s14,A14,n14,c14,t14,B14,m14,d14,rfl,hr13,hr14,hb⟩
  have aU:=hJ hb
  have bT:=hJ hr13
  have bU:=hJ hr14
  clear hb hr13 hr14
  go_wp2_with fail
  have bC:=hJ (bt bB.out aU.out)
  have bV:=hJ (PF.new bR.out aU.out)
  have bW:=hJ (PF.new bS.out aU.out)
  clear hHeld
  refine hK.out _ _ (aK.out _ bC.out) (fun hHeld=>?_)
  clear hK K
  try simp only [PT]
  refine ryy [6] ?_
  refine .cons rfl (fun K hK=>?_) .nil
  go_simp
  go_at_call 34
  refine (ptcompare_any ax 1 ay 1 bx 1 by' 1 s11 A11 n11 c11 t11 B11 m11 d11 s12 A12 n12 c12 t12 B12 m12 d12 s13 A13 n13 c13 t13 B13 m13 d13 s14 A14 n14 c14 t14 B14 m14 d14 v10 bV.out bW.out bT.out bU.out ⟨⟨(int_fr aA.out.1.1).1.1,(int_fr aA.out.1.1).2.1,(int_fr aA.out.1.1).2.2⟩,⟨(int_fr aA.out.1.2).1.1,(int_fr aA.out.1.2).2.1,(int_fr aA.out.1.2).2.2⟩,⟨(int_fr aA.out.2.1).1.1,(int_fr aA.out.2.1).2.1,(int_fr aA.out.2.1).2.2⟩,⟨(int_fr aA.out.2.2).1.1,(int_fr aA.out.2.2).2.1,(int_fr aA.out.2.2).2.2⟩⟩).mono ?_
  rw [aG.out]
  rintro e v11 ⟨rfl,hb⟩
  have bX:=hJ hb
  clear hb
  go_wp2_with fail
  have aL:=hJ (bt bC.out bX.out)
  clear hHeld
  refine hK.out _ _ (aK.out _ aL.out) (fun hHeld=>?_)
  clear hK K
  refine tq 7 ?_
  try simp only [PT]
  refine wpAnyH_done (by kernel_rfl) ?_ _
  clear hHeld
  have aM:=hJ (BX.new aC.out aL.out)
  obtain ⟨bY,bZ⟩:=aM.out.c2 2 3 rfl rfl
  obtain ⟨cA,cB⟩:=aM.out.c2 0 1 rfl rfl
  have aV:=hJ (bt aD.out aL.out)
  have aB:=hJ (BX.new aZ.out aV.out)
  have cC:=aB.out.frozen 0
  have cD:=aB.out.cell 0 rfl
  have cE:=aB.out.frozen 1
  have cF:=aB.out.cell 1 rfl
  have cG:=aB.out.frozen 2
  have cH:=aB.out.cell 2 rfl
  have cI:=aB.out.frozen 3
  have cJ:=aB.out.cell 3 rfl
  obtain ⟨x16,bD⟩:=nmz (World.setCell (World.setCell (World.setCell (World.setCell v11 ⟨w.heap.size+1,0,none⟩ (.int .i64 bx)) ⟨w.heap.size+1,1,none⟩ (.int .i64 by')) ⟨w.heap.size+1,2,none⟩ (.int .i64 ax)) ⟨w.heap.size+1,3,none⟩ (.int .i64 ay))
  have bE:=hJ (show sto v11 (w.heap.size+1) 0 [.int .i64 bx,.int .i64 by',.int .i64 ax,.int .i64 ay]=x16 from bD)
  have cK:=hJ (show BX 25 x16 (w.heap.size+1) #[.int .i64 bx,.int .i64 by',.int .i64 ax,.int .i64 ay] by rw [←bE.out]; exact BX.put aB.out _ _)
  have aW:=hJ (show Below w.heap.size w x16 by rw [←bE.out]; exact below_sto (bt (bt (bt aY.out aI.out) aJ.out) aL.out) bA.out _ _)
  go_wp2
  clear bY bZ cA cB cC cD cE cF cG cH cI cJ bD
  exact bodyPost_ret (results_cell1 rfl _ _ _ _ _ _ _ rfl cK.out Tryz.underlying25 rfl (by kernel_rfl)) rfl ⟨by unfold noV; rw [aG.out,if_pos HO.out] <;> rfl,aW.out⟩
 ·have hcz:decide (0 < cm)=false:=decide_eq_false hc
  have HO:=hJ hc
  clear hc
  have aD:=hJ (bt aI.out aJ.out)
  have aC:=hJ (BX.new aS.out aD.out)
  have aO:Hid (∀ w',Below w7.heap.size w7 w'→(fun w':World=>w'.cell? ⟨w.heap.size,0,none⟩=some (.int .i64 ax)∧w'.cell? ⟨w.heap.size,1,none⟩=some (.int .i64 ay)∧w'.cell? ⟨w.heap.size,2,none⟩=some (.int .i64 bx)∧w'.cell? ⟨w.heap.size,3,none⟩=some (.int .i64 by')∧Below w7.heap.size w7 w') w'):=hJ (fun w' hb=>⟨(BX.new aC.out hb).cell 0 rfl,(BX.new aC.out hb).cell 1 rfl,(BX.new aC.out hb).cell 2 rfl,(BX.new aC.out hb).cell 3 rfl,hb⟩)
  go_wp2_with fail
  obtain ⟨v17,hv17⟩:=nmz (World.drew w7)
  have cL:=hJ (show Below w7.heap.size w7 v17 by rw [←hv17]; exact (Below.refl _ _).drew)
  refine whd aO hv17 (fun hHeld=>?_)
  clear hv17
  refine tq 0 ?_
  refine tq 1 ?_
  refine tq 3 ?_
  refine tq 4 ?_
  try simp only [PT]
  refine ryy [2] ?_
  refine .cons rfl (fun K hK=>?_) .nil
  go_simp
  go_at_call 21
  refine (pof_any ax ay v17 aA.out.1.1 aA.out.1.2).mono ?_
  rintro e v18 ⟨s15,A15,n15,c15,t15,B15,m15,d15,s16,A16,n16,c16,t16,B16,m16,d16,rfl,hr15,hr16,hb⟩
  have cM:=hJ hb
  have cN:=hJ hr15
  have cO:=hJ hr16
  clear hb hr15 hr16
  go_wp2_with fail
  have bF:=hJ (bt cL.out cM.out)
  clear hHeld
  refine hK.out _ _ (aO.out _ bF.out) (fun hHeld=>?_)
  clear hK K
  try simp only [PT]
  refine ryy [5] ?_
  refine .cons rfl (fun K hK=>?_) .nil
  go_simp
  go_at_call 21
  refine (pof_any bx by' v18 aA.out.2.1 aA.out.2.2).mono ?_
  rintro e v19 ⟨s17,A17,n17,c17,t17,B17,m17,d17,s18,A18,n18,c18,t18,B18,m18,d18,rfl,hr17,hr18,hb⟩
  have aX:=hJ hb
  have cP:=hJ hr17
  have cQ:=hJ hr18
  clear hb hr17 hr18
  go_wp2_with fail
  have bG:=hJ (bt bF.out aX.out)
  have cR:=hJ (PF.new cN.out aX.out)
  have cS:=hJ (PF.new cO.out aX.out)
  clear hHeld
  refine hK.out _ _ (aO.out _ bG.out) (fun hHeld=>?_)
  clear hK K
  try simp only [PT]
  refine ryy [6] ?_
  refine .cons rfl (fun K hK=>?_) .nil
  go_simp
  go_at_call 34
  refine (ptcompare_any ax 1 ay 1 bx 1 by' 1 s15 A15 n15 c15 t15 B15 m15 d15 s16 A16 n16 c16 t16 B16 m16 d16 s17 A17 n17 c17 t17 B17 m17 d17 s18 A18 n18 c18 t18 B18 m18 d18 v19 cR.out cS.out cP.out cQ.out ⟨⟨(int_fr aA.out.1.1).1.1,(int_fr aA.out.1.1).2.1,(int_fr aA.out.1.1).2.2⟩,⟨(int_fr aA.out.1.2).1.1,(int_fr aA.out.1.2).2.1,(int_fr aA.out.1.2).2.2⟩,⟨(int_fr aA.out.2.1).1.1,(int_fr aA.out.2.1).2.1,(int_fr aA.out.2.1).2.2⟩,⟨(int_fr aA.out.2.2).1.1,(int_fr aA.out.2.2).2.1,(int_fr aA.out.2.2).2.2⟩⟩).mono ?_
  rw [aG.out]
  rintro e v20 ⟨rfl,hb⟩
  have cT:=hJ hb
  clear hb
  go_wp2_with fail
  have aR:=hJ (bt bG.out cT.out)
  clear hHeld
  refine hK.out _ _ (aO.out _ aR.out) (fun hHeld=>?_)
  clear hK K
  refine tq 7 ?_
  try simp only [PT]
  refine wpAnyH_done (by kernel_rfl) ?_ _
  clear hHeld
  have aM:=hJ (BX.new aC.out aR.out)
  obtain ⟨cU,cV,cW,cX⟩:=aM.out.c4 0 1 2 3 rfl rfl rfl rfl
  have aV:=hJ (bt aD.out aR.out)
  have aB:=hJ (BX.new aZ.out aV.out)
  have cY:=aB.out.frozen 0
  have cZ:=aB.out.cell 0 rfl
  have dA:=aB.out.frozen 1
  have dB:=aB.out.cell 1 rfl
  have dD:=aB.out.frozen 2
  have dE:=aB.out.cell 2 rfl
  have dG:=aB.out.frozen 3
  have dH:=aB.out.cell 3 rfl
  obtain ⟨x25,bH⟩:=nmz (World.setCell (World.setCell (World.setCell (World.setCell v20 ⟨w.heap.size+1,0,none⟩ (.int .i64 ax)) ⟨w.heap.size+1,1,none⟩ (.int .i64 ay)) ⟨w.heap.size+1,2,none⟩ (.int .i64 bx)) ⟨w.heap.size+1,3,none⟩ (.int .i64 by'))
  have bJ:=hJ (show sto v20 (w.heap.size+1) 0 [.int .i64 ax,.int .i64 ay,.int .i64 bx,.int .i64 by']=x25 from bH)
  have dI:=hJ (show BX 25 x25 (w.heap.size+1) #[.int .i64 ax,.int .i64 ay,.int .i64 bx,.int .i64 by'] by rw [←bJ.out]; exact BX.put aB.out _ _)
  have aW:=hJ (show Below w.heap.size w x25 by rw [←bJ.out]; exact below_sto (bt (bt (bt aY.out aI.out) aJ.out) aR.out) bA.out _ _)
  go_wp2
  clear cU cV cW cX cY cZ dA dB dD dE dG dH bH
  exact bodyPost_ret (results_cell1 rfl _ _ _ _ _ _ _ rfl dI.out Tryz.underlying25 rfl (by kernel_rfl)) rfl ⟨by unfold noV; rw [aG.out,if_neg (Int.not_lt.2 HO.out)] <;> rfl,aW.out⟩
end Go.Proofs.YtdgicnhadecldaaGreat


namespace Go.Proofs.YtdgicnhadecldaaGreat
open Go.RowKit
attribute [local go_sem ↓] Go.wp_at_zero Go.wp_at_succ
set_option linter.unusedVariables false
set_option linter.unusedSimpArgs false
/-- The numbers that the reference's On bears. -/
def Ob (ax ay bx by' X Y D:Int):Prop:=((-1024≤ax∧ax≤1024)∧(-1024≤ay∧ay≤1024)∧(-1024≤bx∧bx≤1024)∧(-1024≤by'∧by'≤1024))∧(-68719476736≤X∧X≤68719476736)∧(-68719476736≤Y∧Y≤68719476736)∧0 < D∧D≤16777216
/-- Whether a point lies on a segment, as the reference says. -/
def roV (ax ay bx by' X Y D:Int):Bool:=decide ((bx - ax)*(Y - (ay*D))=(by' - ay)*(X - (ax*D))) && (decide (0≤(bx - ax)*(X - (ax*D))+(by' - ay)*(Y - (ay*D))) && decide ((bx - ax)*(X - (ax*D))+(by' - ay)*(Y - (ay*D))≤((bx - ax)*(bx - ax)+(by' - ay)*(by' - ay))*D))
theorem on_i6 {ax ay bx by' X Y D:Int} (h:Ob ax ay bx by' X Y D):(I6 (ax*D)∧I6 (X - (ax*D))∧I6 (ay*D)∧I6 (Y - (ay*D))∧I6 (bx - ax)∧I6 (by' - ay))∧(I6 ((bx - ax)*(Y - (ay*D)))∧I6 ((by' - ay)*(X - (ax*D)))∧I6 ((bx - ax)*(X - (ax*D)))∧I6 ((by' - ay)*(Y - (ay*D)))∧I6 ((bx - ax)*(X - (ax*D))+(by' - ay)*(Y - (ay*D))))∧I6 ((bx - ax)*(bx - ax))∧I6 ((by' - ay)*(by' - ay))∧I6 ((bx - ax)*(bx - ax)+(by' - ay)*(by' - ay))∧I6 (((bx - ax)*(bx - ax)+(by' - ay)*(by' - ay))*D):=by
 obtain ⟨⟨a1,a2,a3,a4⟩,b1,b2,b3,b4⟩:=h
 have hd : -16777216≤D∧D≤16777216:=by omega
 have m1:=mul_in7 a1 hd
 have m2:=mul_in7 a2 hd
 have hx : -85899345920≤(X - (ax*D))∧(X - (ax*D))≤85899345920:=by omega
 have hy : -85899345920≤(Y - (ay*D))∧(Y - (ay*D))≤85899345920:=by omega
 have hu : -2048≤(bx - ax)∧(bx - ax)≤2048:=by omega
 have hv : -2048≤(by' - ay)∧(by' - ay)≤2048:=by omega
 have m3:=mul_in7 hu hy
 have m4:=mul_in7 hv hx
 have m5:=mul_in7 hu hx
 have m6:=mul_in7 hv hy
 have m7:=mul_in7 hu hu
 have m8:=mul_in7 hv hv
 have hs : -8388608≤(bx - ax)*(bx - ax)+(by' - ay)*(by' - ay)∧(bx - ax)*(bx - ax)+(by' - ay)*(by' - ay)≤8388608:=by omega
 have m9:=mul_in7 hs hd
 unfold I6
 omega
set_option maxRecDepth 100000 in
set_option maxHeartbeats 1600000 in
theorem ron_any (ax ay bx by' X Y D:Int) (w:World) (h:Ob ax ay bx by' X Y D) :
  Calls Tryz.prog 31 #[.agg #[.int .i64 ax,.int .i64 ay,.int .i64 bx,.int .i64 by'],.agg #[.int .i64 X,.int .i64 Y,.int .i64 D]] w fun e w'=>e=.returned ((.bool (roV ax ay bx by' X Y D)))∧Below w.heap.size w w':=by
 have aA:=hJ (on_i6 h)
 clear h
 obtain ⟨uy,huy⟩:=nmz ((bx - ax)*(Y - (ay*D)))
 have Huy:=hJ huy
 have bM:=hJ (show IntKind.i64.wrap ((bx - ax)*(Y - (ay*D)))=uy by rw [←huy]; exact i6_wrap aA.out.2.1.1)
 clear huy
 obtain ⟨vx,hvx⟩:=nmz ((by' - ay)*(X - (ax*D)))
 have Hvx:=hJ hvx
 have bN:=hJ (show IntKind.i64.wrap ((by' - ay)*(X - (ax*D)))=vx by rw [←hvx]; exact i6_wrap aA.out.2.1.2.1)
 clear hvx
 obtain ⟨al,hal⟩:=nmz (((bx - ax)*(X - (ax*D)))+((by' - ay)*(Y - (ay*D))))
 have Hal:=hJ hal
 have bP:=hJ (show IntKind.i64.wrap (((bx - ax)*(X - (ax*D)))+((by' - ay)*(Y - (ay*D))))=al by rw [←hal]; exact i6_wrap aA.out.2.1.2.2.2.2)
 clear hal
 obtain ⟨ml,hml⟩:=nmz ((((bx - ax)*(bx - ax))+((by' - ay)*(by' - ay)))*D)
 have Hml:=hJ hml
 have bO:=hJ (show IntKind.i64.wrap ((((bx - ax)*(bx - ax))+((by' - ay)*(by' - ay)))*D)=ml by rw [←hml]; exact i6_wrap aA.out.2.2.2.2.2)
 clear hml
 obtain ⟨x1,aB⟩:=nmz ((w.alloc (.cells #[.int .i64 ax,.int .i64 ay,.int .i64 bx,.int .i64 by'] 25)).alloc (.cells #[.int .i64 X,.int .i64 Y,.int .i64 D] 47))
 have aJ:=hJ (show Below w.heap.size w x1 by rw [←aB]; exact (((Below.refl _ _).alloc (Nat.le_refl _) _).alloc (by simp only [World.size_alloc]; omega) _))
 have aC:=hJ (show BX 25 x1 w.heap.size #[.int .i64 ax,.int .i64 ay,.int .i64 bx,.int .i64 by'] by rw [←aB]; exact ((BX.at rfl).alloc _))
 have aD:=hJ (show BX 47 x1 (w.heap.size+1) #[.int .i64 X,.int .i64 Y,.int .i64 D] by rw [←aB]; exact (BX.at (by simp only [World.size_alloc])))
 have aK:=aD.out.cell 0 rfl
 have aL:=aC.out.cell 0 rfl
 have aM:=aD.out.cell 2 rfl
 have aO:IntKind.i64.wrap (ax*D)=ax*D:=i6_wrap aA.out.1.1
 have aR:IntKind.i64.wrap (X - (ax*D))=X - (ax*D):=i6_wrap aA.out.1.2.1
 have aS:=aD.out.cell 1 rfl
 have aT:=aC.out.cell 1 rfl
 have aU:=aD.out.cell 2 rfl
 have aV:IntKind.i64.wrap (ay*D)=ay*D:=i6_wrap aA.out.1.2.2.1
 have aW:IntKind.i64.wrap (Y - (ay*D))=Y - (ay*D):=i6_wrap aA.out.1.2.2.2.1
 have aX:=aC.out.cell 2 rfl
 have aY:=aC.out.cell 0 rfl
 have aZ:IntKind.i64.wrap (bx - ax)=bx - ax:=i6_wrap aA.out.1.2.2.2.2.1
 have bA:=aC.out.cell 3 rfl
 have bB:=aC.out.cell 1 rfl
 have bC:IntKind.i64.wrap (by' - ay)=by' - ay:=i6_wrap aA.out.1.2.2.2.2.2
 by_cases hc:uy=vx
 ·have bD:=hJ hc
  have aH:=bM.out
  have aI:=bN.out
  have bE:IntKind.i64.wrap ((bx - ax)*(X - (ax*D)))=(bx - ax)*(X - (ax*D)):=i6_wrap aA.out.2.1.2.2.1
  have bF:IntKind.i64.wrap ((by' - ay)*(Y - (ay*D)))=(by' - ay)*(Y - (ay*D)):=i6_wrap aA.out.2.1.2.2.2.1
  have bG:=bP.out
  rcases (show (0≤al∧al≤ml)∨(0≤al∧¬ al≤ml)∨¬ 0≤al by omega) with ⟨h1,h2⟩ | ⟨h1,h2⟩ | h1
  ·have aG:=hJ (And.intro h1 h2)
   have bH:IntKind.i64.wrap ((bx - ax)*(bx - ax))=(bx - ax)*(bx - ax):=i6_wrap aA.out.2.2.1
   have bJ:IntKind.i64.wrap ((by' - ay)*(by' - ay))=(by' - ay)*(by' - ay):=i6_wrap aA.out.2.2.2.1
   have bK:IntKind.i64.wrap (((bx - ax)*(bx - ax))+((by' - ay)*(by' - ay)))=((bx - ax)*(bx - ax))+((by' - ay)*(by' - ay)):=i6_wrap aA.out.2.2.2.2.1
   have bQ:=aD.out.cell 2 rfl
   have bL:=bO.out
   go_enter Tryz.func31,Tryz.ntmps31
   go_wp2
   clear aB aK aL aM aO aR aS aT aU aV aW aX aY aZ bA bB bC aH aI bE bF bG bH bJ bK bQ bL
   go_ret
   exact ⟨by unfold roV; rw [Huy.out,Hvx.out,show (bx - ax)*(X - (ax*D))+(by' - ay)*(Y - (ay*D))=al from Hal.out,show ((bx - ax)*(bx - ax)+(by' - ay)*(by' - ay))*D=ml from Hml.out]; rw [decide_eq_true bD.out,decide_eq_true aG.out.1,decide_eq_true aG.out.2]; rfl,aJ.out⟩
  ·have aG:=hJ (And.intro h1 h2)
   have bH:IntKind.i64.wrap ((bx - ax)*(bx - ax))=(bx - ax)*(bx - ax):=i6_wrap aA.out.2.2.1
   have bJ:IntKind.i64.wrap ((by' - ay)*(by' - ay))=(by' - ay)*(by' - ay):=i6_wrap aA.out.2.2.2.1
   have bK:IntKind.i64.wrap (((bx - ax)*(bx - ax))+((by' - ay)*(by' - ay)))=((bx - ax)*(bx - ax))+((by' - ay)*(by' - ay)):=i6_wrap aA.out.2.2.2.2.1
   have bR:=aD.out.cell 2 rfl
   have bL:=bO.out
   go_enter Tryz.func31,Tryz.ntmps31
   go_wp2
   clear aB aK aL aM aO aR aS aT aU aV aW aX aY aZ bA bB bC aH aI bE bF bG bH bJ bK bR bL
   go_ret
   exact ⟨by unfold roV; rw [Huy.out,Hvx.out,show (bx - ax)*(X - (ax*D))+(by' - ay)*(Y - (ay*D))=al from Hal.out,show ((bx - ax)*(bx - ax)+(by' - ay)*(by' - ay))*D=ml from Hml.out]; rw [decide_eq_false (Int.not_le.2 aG.out.2)]; simp,aJ.out⟩
  have aG:=hJ h1
  go_enter Tryz.func31,Tryz.ntmps31
  go_wp2
  clear aB aK aL aM aO aR aS aT aU aV aW aX aY aZ bA bB bC aH aI bE bF bG
  go_ret
  exact ⟨by unfold roV; rw [Huy.out,Hvx.out,show (bx - ax)*(X - (ax*D))+(by' - ay)*(Y - (ay*D))=al from Hal.out,show ((bx - ax)*(bx - ax)+(by' - ay)*(by' - ay))*D=ml from Hml.out]; rw [decide_eq_false (Int.not_le.2 aG.out)]; simp,aJ.out⟩
 ·have bD:=hJ hc
  have aH:=bM.out
  have aI:=bN.out
  go_enter Tryz.func31,Tryz.ntmps31
  go_wp2
  clear aB aK aL aM aO aR aS aT aU aV aW aX aY aZ bA bB bC aH aI
  go_ret
  exact ⟨by unfold roV; rw [Huy.out,Hvx.out,show (bx - ax)*(X - (ax*D))+(by' - ay)*(Y - (ay*D))=al from Hal.out,show ((bx - ax)*(bx - ax)+(by' - ay)*(by' - ay))*D=ml from Hml.out]; rw [decide_eq_false bD.out]; rfl,aJ.out⟩
end Go.Proofs.YtdgicnhadecldaaGreat


namespace Go.Proofs.YtdgicnhadecldaaGreat
theorem in_box {a b x y X Y D:Int} (hD:0 < D):inV a b x y (mkP X D) (mkQ X D) (mkP Y D) (mkQ Y D)=decide (((a*D≤X∧X≤x*D)∧b*D≤Y)∧Y≤y*D):=by
 obtain ⟨hx,ex⟩:=mk_low X D hD
 obtain ⟨hy,ey⟩:=mk_low Y D hD
 have key:∀ {p q P:Int},0 < q→p*D=P*q→∀ a:Int,(a*q≤p↔a*D≤P)∧(p≤a*q↔P≤a*D):=by
  intro p q P hq e a
  have e1:(a*q)*D=(a*D)*q:=by rw [Int.mul_assoc,Int.mul_comm q D,←Int.mul_assoc]
  have c1:a*q≤p↔(a*q)*D≤p*D:=⟨fun h=>Int.mul_le_mul_of_nonneg_right h (by omega),fun h=>Int.le_of_mul_le_mul_right h hD⟩
  have c2:a*D≤P↔(a*D)*q≤P*q:=⟨fun h=>Int.mul_le_mul_of_nonneg_right h (by omega),fun h=>Int.le_of_mul_le_mul_right h hq⟩
  have c3:p≤a*q↔p*D≤(a*q)*D:=⟨fun h=>Int.mul_le_mul_of_nonneg_right h (by omega),fun h=>Int.le_of_mul_le_mul_right h hD⟩
  have c4:P≤a*D↔P*q≤(a*D)*q:=⟨fun h=>Int.mul_le_mul_of_nonneg_right h (by omega),fun h=>Int.le_of_mul_le_mul_right h hq⟩
  rw [c1,c2,c3,c4,e1,e]
  exact ⟨Iff.rfl,Iff.rfl⟩
 unfold inV ngV
 simp only [Int.mul_one]
 rw [←Bool.decide_and]
 refine decide_eq_decide.2 ?_
 rw [(key hx.1 ex a).1,(key hy.1 ey b).1,(key hx.1 ex x).2,(key hy.1 ey y).2]
 exact ⟨fun h=>⟨⟨⟨h.1.1,h.2.1⟩,h.1.2⟩,h.2.2⟩,fun h=>⟨⟨h.1.1.1,h.1.2⟩,h.1.1.2,h.2⟩⟩
/-- x lies between 0 and u times d. -/
def Bt7 (u x d:Int):Prop:=(0≤u∧0≤x∧x≤u*d)∨(u≤0∧u*d≤x∧x≤0)
theorem bt_box {a b X D:Int} (hD:0 < D):(min a b*D≤X∧X≤max a b*D)↔Bt7 (b - a) (X - a*D) D:=by
 unfold Bt7
 rw [Int.sub_mul]
 have h1:a≤b→a*D≤b*D:=fun h=>Int.mul_le_mul_of_nonneg_right h (by omega)
 have h2:b≤a→b*D≤a*D:=fun h=>Int.mul_le_mul_of_nonneg_right h (by omega)
 rcases Int.le_total a b with h | h
 ·rw [show min a b=a by omega,show max a b=b by omega]
  have:=h1 h
  generalize a*D=s at *
  generalize b*D=t at *
  constructor
  ·intro g; exact .inl ⟨by omega,by omega,by omega⟩
  rintro (g | g)
  ·omega
  have:=h2 (by omega); omega
 ·rw [show min a b=b by omega,show max a b=a by omega]
  have:=h2 h
  generalize a*D=s at *
  generalize b*D=t at *
  constructor
  ·intro g; exact .inr ⟨by omega,by omega,by omega⟩
  ·rintro (g | g)
   ·have:=h1 (by omega); omega
   ·omega
theorem bt_mul {u x d:Int} (h:Bt7 u x d):0≤u*x∧u*x≤u*u*d:=by
 rw [Int.mul_assoc]
 rcases h with ⟨h1,h2,h3⟩ | ⟨h1,h2,h3⟩
 ·exact ⟨Int.mul_nonneg h1 h2,Int.mul_le_mul_of_nonneg_left h3 h1⟩
 ·refine ⟨Int.mul_nonneg_of_nonpos_of_nonpos h1 h3,?_⟩
  have:=Int.mul_le_mul_of_nonneg_left h2 (show 0 ≤ -u by omega)
  rw [Int.neg_mul,Int.neg_mul] at this
  omega
theorem bt_of {u x n al d:Int} (hn:0 < n) (e:x*n=u*al) (h0:0≤al) (h1:al≤n*d):Bt7 u x d:=by
 rcases Int.le_total 0 u with hu | hu
 ·refine .inl ⟨hu,?_,?_⟩
  ·refine Int.le_of_mul_le_mul_right (a:=n) ?_ hn
   rw [e,Int.zero_mul]; exact Int.mul_nonneg hu h0
  refine Int.le_of_mul_le_mul_right (a:=n) ?_ hn
  rw [e,Int.mul_assoc,Int.mul_comm d n]; exact Int.mul_le_mul_of_nonneg_left h1 hu
 ·refine .inr ⟨hu,?_,?_⟩
  ·refine Int.le_of_mul_le_mul_right (a:=n) ?_ hn
   rw [e,Int.mul_assoc,Int.mul_comm d n]
   have:=Int.mul_le_mul_of_nonneg_left h1 (show 0 ≤ -u by omega)
   rw [Int.neg_mul,Int.neg_mul] at this
   omega
  ·refine Int.le_of_mul_le_mul_right (a:=n) ?_ hn
   rw [e,Int.zero_mul]
   have:=Int.mul_nonneg (show 0 ≤ -u by omega) h0
   rw [Int.neg_mul] at this
   omega
theorem sq_pos {u v:Int} (h:¬ (u=0∧v=0)):0 < u*u+v*v:=by
 have hu:0≤u*u:=by rcases Int.le_total 0 u with h | h; exact Int.mul_nonneg h h; exact Int.mul_nonneg_of_nonpos_of_nonpos h h
 have hv:0≤v*v:=by rcases Int.le_total 0 v with h | h; exact Int.mul_nonneg h h; exact Int.mul_nonneg_of_nonpos_of_nonpos h h
 by_cases hz:u=0
 ·have:v≠0:=fun e=>h ⟨hz,e⟩
  have:v*v≠0:=Int.mul_ne_zero this this
  omega
 ·have:u*u≠0:=Int.mul_ne_zero hz hz
  omega
theorem on_core {u v x y d:Int} (h:¬ (u=0∧v=0)) (e:u*y=v*x):(Bt7 u x d∧Bt7 v y d)↔(0≤u*x+v*y∧u*x+v*y≤(u*u+v*v)*d):=by
 constructor
 ·rintro ⟨h1,h2⟩
  have a1:=bt_mul h1
  have a2:=bt_mul h2
  rw [Int.add_mul]
  omega
 ·rintro ⟨h0,h1⟩
  have hn:=sq_pos h
  refine ⟨bt_of hn ?_ h0 h1,bt_of hn ?_ h0 h1⟩
  ·rw [Int.mul_add,Int.mul_add,show u*(v*y)=v*(u*y) by rw [←Int.mul_assoc,Int.mul_comm u v,Int.mul_assoc],e]; grind
  ·rw [Int.mul_add,Int.mul_add,show v*(u*x)=u*(v*x) by rw [←Int.mul_assoc,Int.mul_comm v u,Int.mul_assoc],←e]; grind
theorem ar_cr (ax ay bx by' X Y D:Int):arN ax ay 1 bx by' 1 X Y D=(bx - ax)*(Y - ay*D) - (by' - ay)*(X - ax*D):=by unfold arN; simp only [Int.mul_one]
/-- On of the program is that of the reference. -/
theorem on_math {ax ay bx by' X Y D:Int} (hD:0 < D) (hs:¬ (ax=bx∧ay=by')):onV ax ay bx by' X Y D=roV ax ay bx by' X Y D:=by
 unfold onV roV
 rw [in_box hD,←Bool.decide_and,←Bool.decide_and,←Bool.decide_and]
 refine decide_eq_decide.2 ?_
 rw [show (cmpI (arN ax ay 1 bx by' 1 X Y D) 0=0)=((bx - ax)*(Y - ay*D)=(by' - ay)*(X - ax*D)) by rw [cm_zero,ar_cr]; exact propext ⟨fun h=>by omega,fun h=>by omega⟩]
 have hb:=bt_box (a:=ax) (b:=bx) (X:=X) hD
 have hc:=bt_box (a:=ay) (b:=by') (X:=Y) hD
 constructor
 ·rintro ⟨⟨⟨h1,h2⟩,h3⟩,h4⟩
  exact ⟨h4,(on_core (by omega) h4).1 ⟨hb.1 h1,hc.1 ⟨h2,h3⟩⟩⟩
 ·rintro ⟨h4,h5⟩
  obtain ⟨g1,g2⟩:=(on_core (by omega) h4).2 h5
  exact ⟨⟨⟨hb.2 g1,(hc.2 g2).1⟩,(hc.2 g2).2⟩,h4⟩
end Go.Proofs.YtdgicnhadecldaaGreat


namespace Go.Proofs.YtdgicnhadecldaaGreat
open Go.RowKit
attribute [local go_sem ↓] Go.wp_at_zero Go.wp_at_succ
set_option linter.unusedVariables false
set_option linter.unusedSimpArgs false
def p3V:List (Int × Int × Int)→List Value
 | []=>[]
 | p :: l=>.int .i64 p.1 :: .int .i64 p.2.1 :: .int .i64 p.2.2 :: p3V l
theorem p3V_get {l:List (Int × Int × Int)} {i:Nat} {x y z:Int} (h:l[i]?=some (x,y,z)):(p3V l).toArray[i*3]?=some (.int .i64 x)∧(p3V l).toArray[i*3+1]?=some (.int .i64 y)∧(p3V l).toArray[i*3+2]?=some (.int .i64 z):=by
 rw [List.getElem?_toArray,List.getElem?_toArray,List.getElem?_toArray]
 induction l generalizing i with
 | nil=>simp at h
 | cons q l ih =>
  match i with
  | 0=>simp at h; subst h; exact ⟨rfl,rfl,rfl⟩
  | i+1 =>
   have:=ih (i:=i) (by simpa using h)
   rw [show (i+1)*3=i*3+1+1+1 by omega]
   exact this
theorem get3 {l:List (Int × Int × Int)} {n i:Nat} (h:l.length=n) (hi:i < n):∃ x y z,l[i]?=some (x,y,z):=⟨_,_,_,List.getElem?_eq_getElem (by omega)⟩
end Go.Proofs.YtdgicnhadecldaaGreat
