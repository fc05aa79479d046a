/- On of the program is that of the reference. No walk. -/
import Derived.Test.YtagakcficjcfhaaGreatAE
import Derived.Test.YtagakcficjcfhaaGreatB2
import Derived.Test.YtagakcficjcfhaaGreatCA
import Derived.Test.YtagakcficjcfhaaGreatCF
import Derived.Test.YtagakcficjcfhaaGreatEA
import Derived.Test.YtagakcficjcfhaaGreatEV
import Derived.Test.YtagakcficjcfhaaGreatFD
import Derived.Test.YtagakcficjcfhaaGreatQL
namespace Go.Proofs.YtagakcficjcfhaaGreat
theorem in_box {a b x y X Y D:Int} (hD:0 < D):inV a b x y (mkP X D) (mkQ X D) (mkP Y D) (mkQ Y D)=decide (((a*D≤X∧X≤x*D)∧b*D≤Y)∧Y≤y*D):=by
 obtain ⟨hx,ex⟩:=mk_low X D hD
 obtain ⟨hy,ey⟩:=mk_low Y D hD
 have key:∀ {p q P:Int},0 < q→p*D=P*q→∀ a:Int,(a*q≤p↔a*D≤P)∧(p≤a*q↔P≤a*D):=by
  intro p q P hq e a
  have e1:(a*q)*D=(a*D)*q:=by rw [Int.mul_assoc,Int.mul_comm q D,←Int.mul_assoc]
  have c1:a*q≤p↔(a*q)*D≤p*D:=⟨fun h=>Int.mul_le_mul_of_nonneg_right h (by omega),fun h=>Int.le_of_mul_le_mul_right h hD⟩
  have c2:a*D≤P↔(a*D)*q≤P*q:=⟨fun h=>Int.mul_le_mul_of_nonneg_right h (by omega),fun h=>Int.le_of_mul_le_mul_right h hq⟩
  have c3:p≤a*q↔p*D≤(a*q)*D:=⟨fun h=>Int.mul_le_mul_of_nonneg_right h (by omega),fun h=>Int.le_of_mul_le_mul_right h hD⟩
  have c4:P≤a*D↔P*q≤(a*D)*q:=⟨fun h=>Int.mul_le_mul_of_nonneg_right h (by omega),fun h=>Int.le_of_mul_le_mul_right h hq⟩
  rw [c1,c2,c3,c4,e1,e]
  exact ⟨Iff.rfl,Iff.rfl⟩
 unfold inV ngV
 simp only [Int.mul_one]
 rw [←Bool.decide_and]
 refine decide_eq_decide.2 ?_
 rw [(key hx.1 ex a).1,(key hy.1 ey b).1,(key hx.1 ex x).2,(key hy.1 ey y).2]
 exact ⟨fun h=>⟨⟨⟨h.1.1,h.2.1⟩,h.1.2⟩,h.2.2⟩,fun h=>⟨⟨h.1.1.1,h.1.2⟩,h.1.1.2,h.2⟩⟩
/-- x lies between 0 and u times d. -/
def Bt7 (u x d:Int):Prop:=(0≤u∧0≤x∧x≤u*d)∨(u≤0∧u*d≤x∧x≤0)
theorem bt_box {a b X D:Int} (hD:0 < D):(min a b*D≤X∧X≤max a b*D)↔Bt7 (b - a) (X - a*D) D:=by
 unfold Bt7
 rw [Int.sub_mul]
 have h1:a≤b→a*D≤b*D:=fun h=>Int.mul_le_mul_of_nonneg_right h (by omega)
 have h2:b≤a→b*D≤a*D:=fun h=>Int.mul_le_mul_of_nonneg_right h (by omega)
 rcases Int.le_total a b with h | h
 ·rw [show min a b=a by omega,show max a b=b by omega]
  have:=h1 h
  generalize a*D=s at *
  generalize b*D=t at *
  constructor
  ·intro g; exact .inl ⟨by omega,by omega,by omega⟩
  rintro (g | g)
  ·omega
  have:=h2 (by omega); omega
 ·rw [show min a b=b by omega,show max a b=a by omega]
  have:=h2 h
  generalize a*D=s at *
  generalize b*D=t at *
  constructor
  ·intro g; exact .inr ⟨by omega,by omega,by omega⟩
  ·rintro (g | g)
   ·have:=h1 (by omega); omega
   ·omega
theorem bt_mul {u x d:Int} (h:Bt7 u x d):0≤u*x∧u*x≤u*u*d:=by
 rw [Int.mul_assoc]
 rcases h with ⟨h1,h2,h3⟩ | ⟨h1,h2,h3⟩
 ·exact ⟨Int.mul_nonneg h1 h2,Int.mul_le_mul_of_nonneg_left h3 h1⟩
 ·refine ⟨Int.mul_nonneg_of_nonpos_of_nonpos h1 h3,?_⟩
  have:=Int.mul_le_mul_of_nonneg_left h2 (show 0 ≤ -u by omega)
  rw [Int.neg_mul,Int.neg_mul] at this
  omega
theorem bt_of {u x n al d:Int} (hn:0 < n) (e:x*n=u*al) (h0:0≤al) (h1:al≤n*d):Bt7 u x d:=by
 rcases Int.le_total 0 u with hu | hu
 ·refine .inl ⟨hu,?_,?_⟩
  ·refine Int.le_of_mul_le_mul_right (a:=n) ?_ hn
   rw [e,Int.zero_mul]; exact Int.mul_nonneg hu h0
  refine Int.le_of_mul_le_mul_right (a:=n) ?_ hn
  rw [e,Int.mul_assoc,Int.mul_comm d n]; exact Int.mul_le_mul_of_nonneg_left h1 hu
 ·refine .inr ⟨hu,?_,?_⟩
  ·refine Int.le_of_mul_le_mul_right (a:=n) ?_ hn
   rw [e,Int.mul_assoc,Int.mul_comm d n]
   have:=Int.mul_le_mul_of_nonneg_left h1 (show 0 ≤ -u by omega)
   rw [Int.neg_mul,Int.neg_mul] at this
   omega
  ·refine Int.le_of_mul_le_mul_right (a:=n) ?_ hn
   rw [e,Int.zero_mul]
   have:=Int.mul_nonneg (show 0 ≤ -u by omega) h0
   rw [Int.neg_mul] at this
   omega
theorem sq_pos {u v:Int} (h:¬ (u=0∧v=0)):0 < u*u+v*v:=by
 have hu:0≤u*u:=by rcases Int.le_total 0 u with h | h; exact Int.mul_nonneg h h; exact Int.mul_nonneg_of_nonpos_of_nonpos h h
 have hv:0≤v*v:=by rcases Int.le_total 0 v with h | h; exact Int.mul_nonneg h h; exact Int.mul_nonneg_of_nonpos_of_nonpos h h
 by_cases hz:u=0
 ·have:v≠0:=fun e=>h ⟨hz,e⟩
  have:v*v≠0:=Int.mul_ne_zero this this
  omega
 ·have:u*u≠0:=Int.mul_ne_zero hz hz
  omega
theorem on_core {u v x y d:Int} (h:¬ (u=0∧v=0)) (e:u*y=v*x):(Bt7 u x d∧Bt7 v y d)↔(0≤u*x+v*y∧u*x+v*y≤(u*u+v*v)*d):=by
 constructor
 ·rintro ⟨h1,h2⟩
  have a1:=bt_mul h1
  have a2:=bt_mul h2
  rw [Int.add_mul]
  omega
 ·rintro ⟨h0,h1⟩
  have hn:=sq_pos h
  refine ⟨bt_of hn ?_ h0 h1,bt_of hn ?_ h0 h1⟩
  ·rw [Int.mul_add,Int.mul_add,show u*(v*y)=v*(u*y) by rw [←Int.mul_assoc,Int.mul_comm u v,Int.mul_assoc],e]; grind
  ·rw [Int.mul_add,Int.mul_add,show v*(u*x)=u*(v*x) by rw [←Int.mul_assoc,Int.mul_comm v u,Int.mul_assoc],←e]; grind
theorem ar_cr (ax ay bx by' X Y D:Int):arN ax ay 1 bx by' 1 X Y D=(bx - ax)*(Y - ay*D) - (by' - ay)*(X - ax*D):=by unfold arN; simp only [Int.mul_one]
/-- On of the program is that of the reference. -/
theorem on_math {ax ay bx by' X Y D:Int} (hD:0 < D) (hs:¬ (ax=bx∧ay=by')):onV ax ay bx by' X Y D=roV ax ay bx by' X Y D:=by
 unfold onV roV
 rw [in_box hD,←Bool.decide_and,←Bool.decide_and,←Bool.decide_and]
 refine decide_eq_decide.2 ?_
 rw [show (cmpI (arN ax ay 1 bx by' 1 X Y D) 0=0)=((bx - ax)*(Y - ay*D)=(by' - ay)*(X - ax*D)) by rw [cm_zero,ar_cr]; exact propext ⟨fun h=>by omega,fun h=>by omega⟩]
 have hb:=bt_box (a:=ax) (b:=bx) (X:=X) hD
 have hc:=bt_box (a:=ay) (b:=by') (X:=Y) hD
 constructor
 ·rintro ⟨⟨⟨h1,h2⟩,h3⟩,h4⟩
  exact ⟨h4,(on_core (by omega) h4).1 ⟨hb.1 h1,hc.1 ⟨h2,h3⟩⟩⟩
 ·rintro ⟨h4,h5⟩
  obtain ⟨g1,g2⟩:=(on_core (by omega) h4).2 h5
  exact ⟨⟨⟨hb.2 g1,(hc.2 g2).1⟩,(hc.2 g2).2⟩,h4⟩
end Go.Proofs.YtagakcficjcfhaaGreat
