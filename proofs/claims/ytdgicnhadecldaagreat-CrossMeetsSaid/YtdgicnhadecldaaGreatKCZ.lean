/- The reference's common points: where they lie, and what they are. -/
import Derived.Test.YtdgicnhadecldaaGreatKB2
import Derived.Test.YtdgicnhadecldaaGreatKCM
import Derived.Test.YtdgicnhadecldaaGreatKYA
namespace Go.Proofs.YtdgicnhadecldaaGreat
open Go.RowKit
set_option linter.unusedVariables false
set_option linter.unusedSimpArgs false
theorem ro_is {ax ay bx by' X Y D:Int} (hD:0 < D) (hs:¬ (ax=bx∧ay=by')):roV ax ay bx by' X Y D=true↔(bx - ax)*(Y - ay*D)=(by' - ay)*(X - ax*D)∧((min ax bx*D≤X∧X≤max ax bx*D)∧min ay by'*D≤Y∧Y≤max ay by'*D):=by
 rw [←on_math hD hs]
 unfold onV
 rw [in_box hD,Bool.and_eq_true,decide_eq_true_iff,decide_eq_true_iff,ar_cr]
 have c:∀ p q:Int,cmpI (p - q) 0=0↔p=q:=by intro p q; unfold cmpI; split <;> (try split) <;> omega
 rw [c]
 constructor
 ·rintro ⟨h,g⟩; exact ⟨g,by omega⟩
 ·rintro ⟨g,h⟩; exact ⟨by omega,g⟩
theorem mm_mul {a b D X:Int} (hD:0 < D) (h1:min a b*D≤X) (h2:X≤max a b*D):(a*D≤X∧X≤b*D)∨(b*D≤X∧X≤a*D):=by
 rcases Int.le_total a b with h | h
 ·rw [Int.min_eq_left h] at h1; rw [Int.max_eq_right h] at h2; exact .inl ⟨h1,h2⟩
 ·rw [Int.min_eq_right h] at h1; rw [Int.max_eq_left h] at h2; exact .inr ⟨h1,h2⟩
theorem mul_sgn {p q u v:Int} (hp:0≤p∧0≤q∨p≤0∧q≤0) (hz:¬ (p=0∧q=0)) (h:p*u+q*v=0):¬ ((0 < u∧0 < v)∨(u < 0∧v < 0)):=by
 have key:∀ p q u v:Int,0≤p→0≤q→¬ (p=0∧q=0)→0 < u→0 < v→0 < p*u+q*v:=by
  intro p q u v hp hq hz hu hv
  have a:=Int.mul_nonneg hp (show 0≤u by omega)
  have b:=Int.mul_nonneg hq (show 0≤v by omega)
  rcases (show 0 < p∨0 < q by omega) with g | g
  ·have:=Int.mul_pos g hu; omega
  have:=Int.mul_pos g hv; omega
 rintro (⟨hu,hv⟩ | ⟨hu,hv⟩)
 ·rcases hp with ⟨a,b⟩ | ⟨a,b⟩
  ·have:=key p q u v a b hz hu hv; omega
  have:=key (-p) (-q) u v (by omega) (by omega) (by omega) hu hv
  rw [Int.neg_mul,Int.neg_mul] at this; omega
 ·rcases hp with ⟨a,b⟩ | ⟨a,b⟩
  ·have:=key p q (-u) (-v) a b hz (by omega) (by omega)
   rw [Int.mul_neg,Int.mul_neg] at this; omega
  ·have:=key (-p) (-q) (-u) (-v) (by omega) (by omega) (by omega) (by omega) (by omega)
   rw [Int.neg_mul_neg,Int.neg_mul_neg] at this; omega
/-- Where a point lies on both, the boxes meet, and no segment lies on one side of the other one. -/
theorem on_both {ax ay bx by' cx cy dx dy X Y D:Int} (hD:0 < D) (hs:¬ (ax=bx∧ay=by')) (ht:¬ (cx=dx∧cy=dy)) (h:roV ax ay bx by' X Y D=true) (g:roV cx cy dx dy X Y D=true):bxM ax ay bx by' cx cy dx dy=true∧¬ 0 < sS ax ay bx by' cx cy dx dy:=by
 rw [ro_is hD hs] at h
 rw [ro_is hD ht] at g
 obtain ⟨h1,⟨h2,h3⟩,h4,h5⟩:=h
 obtain ⟨g1,⟨g2,g3⟩,g4,g5⟩:=g
 have le:∀ a b:Int,a*D≤b*D→a≤b:=fun a b k=>Int.le_of_mul_le_mul_right k hD
 refine ⟨?_,?_⟩
 ·rw [bxM_is]
  exact ⟨⟨le _ _ (Int.le_trans g2 h3),le _ _ (Int.le_trans h2 g3)⟩,le _ _ (Int.le_trans g4 h5),le _ _ (Int.le_trans h4 g5)⟩
 ·unfold sS
  rw [sd_N,sd_N,sgn_mul.1]
  have e1:(bx*D - X)*nV cx cy dx dy ax ay+(X - ax*D)*nV cx cy dx dy bx by'=0:=by unfold nV; grind
  have e2:(by'*D - Y)*nV cx cy dx dy ax ay+(Y - ay*D)*nV cx cy dx dy bx by'=0:=by unfold nV; grind
  by_cases hx:ax=bx
  ·have hy:¬ ay=by':=fun e=>hs ⟨hx,e⟩
   refine mul_sgn ?_ ?_ e2
   ·rcases mm_mul hD h4 h5 with k | k <;> omega
   rintro ⟨k1,k2⟩
   exact hy (Int.eq_of_mul_eq_mul_right (by omega) (show ay*D=by'*D by omega))
  ·refine mul_sgn ?_ ?_ e1
   ·rcases mm_mul hD h2 h3 with k | k <;> omega
   ·rintro ⟨k1,k2⟩
    exact hx (Int.eq_of_mul_eq_mul_right (by omega) (show ax*D=bx*D by omega))
/-- The crossing of two lines, as the reference has it. -/
def rD (ax ay bx by' cx cy dx dy:Int):Int:=(bx - ax)*(dy - cy) - (by' - ay)*(dx - cx)
def rN (ax ay bx by' cx cy dx dy:Int):Int:=(cx - ax)*(dy - cy) - (cy - ay)*(dx - cx)
def rX (ax ay bx by' cx cy dx dy:Int):Int:=ax*rD ax ay bx by' cx cy dx dy+(bx - ax)*rN ax ay bx by' cx cy dx dy
def rY (ax ay bx by' cx cy dx dy:Int):Int:=ay*rD ax ay bx by' cx cy dx dy+(by' - ay)*rN ax ay bx by' cx cy dx dy
/-- A common point on both lines is the crossing. -/
theorem on_cr {ax ay bx by' cx cy dx dy X Y D:Int} (h:(bx - ax)*(Y - ay*D)=(by' - ay)*(X - ax*D)) (g:(dx - cx)*(Y - cy*D)=(dy - cy)*(X - cx*D)):X*rD ax ay bx by' cx cy dx dy=rX ax ay bx by' cx cy dx dy*D∧Y*rD ax ay bx by' cx cy dx dy=rY ax ay bx by' cx cy dx dy*D:=by
 unfold rX rY rD rN
 constructor <;> grind
/-- The crossing lies on both lines. -/
theorem cr_on (ax ay bx by' cx cy dx dy:Int):(bx - ax)*(rY ax ay bx by' cx cy dx dy - ay*rD ax ay bx by' cx cy dx dy)=(by' - ay)*(rX ax ay bx by' cx cy dx dy - ax*rD ax ay bx by' cx cy dx dy)∧(dx - cx)*(rY ax ay bx by' cx cy dx dy - cy*rD ax ay bx by' cx cy dx dy)=(dy - cy)*(rX ax ay bx by' cx cy dx dy - cx*rD ax ay bx by' cx cy dx dy):=by
 unfold rX rY rD rN
 constructor <;> grind
end Go.Proofs.YtdgicnhadecldaaGreat
