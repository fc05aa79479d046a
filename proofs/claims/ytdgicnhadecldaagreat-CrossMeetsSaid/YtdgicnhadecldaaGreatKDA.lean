/- The reference's Meet is the program's, by its values. -/
import Derived.Test.YtdgicnhadecldaaGreatKB2
import Derived.Test.YtdgicnhadecldaaGreatKCM
import Derived.Test.YtdgicnhadecldaaGreatKCY
import Derived.Test.YtdgicnhadecldaaGreatKCZ
import Derived.Test.YtdgicnhadecldaaGreatKYA
namespace Go.Proofs.YtdgicnhadecldaaGreat
open Go.RowKit
set_option linter.unusedVariables false
set_option linter.unusedSimpArgs false
/-- What Make returns: lowest terms, with any sign of the denominator. -/
def MkZ (x y d X Y D:Int):Prop:=∃ g:Int,g≠0∧x=g*X∧y=g*Y∧d=g*D∧0 < D∧(D∣X→D∣Y→D=1)
/-- The reference's list of common points. -/
def rl7 (ax ay bx by' cx cy dx dy:Int) (P:Tr):List Tr:=if rD ax ay bx by' cx cy dx dy≠0 then com7 ax ay bx by' cx cy dx dy (re4 ax ay bx by' cx cy dx dy) P else re4 ax ay bx by' cx cy dx dy
theorem re_on {ax ay bx by' cx cy dx dy:Int} {q:Tr} (h:q ∈ re4 ax ay bx by' cx cy dx dy):q.2.2=1∧roV ax ay bx by' q.1 q.2.1 q.2.2=true∧roV cx cy dx dy q.1 q.2.1 q.2.2=true:=by
 rw [(re_srt ax ay bx by' cx cy dx dy).2] at h
 rcases h with (((h | ⟨h,rfl⟩) | ⟨h,rfl⟩) | ⟨h,rfl⟩) | ⟨h,rfl⟩
 ·exact h.elim
 all_goals exact ⟨rfl,(Bool.and_eq_true _ _ |>.mp h).1,(Bool.and_eq_true _ _ |>.mp h).2⟩
theorem rl_nil {ax ay bx by' cx cy dx dy:Int} {P:Tr} (hs:¬ (ax=bx∧ay=by')) (ht:¬ (cx=dx∧cy=dy)) (hP:rD ax ay bx by' cx cy dx dy≠0→0 < P.2.2) (h:¬ (bxM ax ay bx by' cx cy dx dy=true∧¬ 0 < sS ax ay bx by' cx cy dx dy∧¬ 0 < sS cx cy dx dy ax ay bx by')):rl7 ax ay bx by' cx cy dx dy P=[]:=by
 have no:∀ X Y D:Int,0 < D→¬ (roV ax ay bx by' X Y D=true∧roV cx cy dx dy X Y D=true):=by
  rintro X Y D hD ⟨h1,h2⟩
  have k1:=on_both (cx:=cx) (cy:=cy) (dx:=dx) (dy:=dy) hD hs ht h1 h2
  have k2:=on_both (cx:=ax) (cy:=ay) (dx:=bx) (dy:=by') hD ht hs h2 h1
  exact h ⟨k1.1,k1.2,k2.2⟩
 have e:re4 ax ay bx by' cx cy dx dy=[]:=by
  refine List.eq_nil_iff_forall_not_mem.2 fun q hq=>?_
  obtain ⟨h1,h2,h3⟩:=re_on hq
  exact no _ _ _ (by omega) ⟨h2,h3⟩
 unfold rl7
 split
 ·rename_i hd
  unfold com7
  rw [if_neg (fun g=>no _ _ _ (hP hd) ((Bool.and_eq_true _ _).mp g)),e]
 ·exact e
theorem in_sgn {g u p q A B:Int} (h:(0 < g∧0 < p∧0 < q)∨(g < 0∧p < 0∧q < 0)) (ha:g*A=u*p) (hb:g*B=u*q):(0≤u→0≤A∧0≤B)∧(u≤0→A≤0∧B≤0):=by
 have pos:∀ g u p A:Int,0 < g→0 < p→g*A=u*p→(0≤u→0≤A)∧(u≤0→A≤0):=by
  intro g u p A hg hp e
  refine ⟨fun hu=>?_,fun hu=>?_⟩
  ·rcases (show 0≤A∨A < 0 by omega) with k | k
   ·exact k
   have:=Int.mul_neg_of_pos_of_neg hg k; have:=Int.mul_nonneg hu (show 0≤p by omega); omega
  rcases (show A≤0∨0 < A by omega) with k | k
  ·exact k
  have:=Int.mul_pos hg k; have:=Int.mul_nonpos_of_nonpos_of_nonneg hu (show 0≤p by omega); omega
 rcases h with ⟨h1,h2,h3⟩ | ⟨h1,h2,h3⟩
 ·have k1:=pos g u p A h1 h2 ha
  have k2:=pos g u q B h1 h3 hb
  exact ⟨fun h=>⟨k1.1 h,k2.1 h⟩,fun h=>⟨k1.2 h,k2.2 h⟩⟩
 ·have k1:=pos (-g) u (-p) A (by omega) (by omega) (by rw [Int.neg_mul,Int.mul_neg,ha])
  have k2:=pos (-g) u (-q) B (by omega) (by omega) (by rw [Int.neg_mul,Int.mul_neg,hb])
  exact ⟨fun h=>⟨k1.1 h,k2.1 h⟩,fun h=>⟨k1.2 h,k2.2 h⟩⟩
theorem box_one {a b D X:Int} (hD:0 < D) (h:(0≤b - a→0≤X - a*D∧0≤b*D - X)∧(b - a≤0→X - a*D≤0∧b*D - X≤0)):min a b*D≤X∧X≤max a b*D:=by
 rcases Int.le_total a b with k | k
 ·rw [Int.min_eq_left k,Int.max_eq_right k]; have:=h.1 (by omega); omega
 ·rw [Int.min_eq_right k,Int.max_eq_left k]; have:=h.2 (by omega); omega
theorem rD_is (ax ay bx by' cx cy dx dy:Int):rD ax ay bx by' cx cy dx dy=nV cx cy dx dy ax ay - nV cx cy dx dy bx by'∧rN ax ay bx by' cx cy dx dy=nV cx cy dx dy ax ay∧rD ax ay bx by' cx cy dx dy=nV ax ay bx by' dx dy - nV ax ay bx by' cx cy:=by
 unfold rD rN nV
 refine ⟨?_,?_,?_⟩ <;> grind
/-- Crossing segments: the crossing lies on both. -/
theorem cr_both {ax ay bx by' cx cy dx dy X Y D:Int} (hs:¬ (ax=bx∧ay=by')) (ht:¬ (cx=dx∧cy=dy)) (h:sS ax ay bx by' cx cy dx dy < 0) (g:sS cx cy dx dy ax ay bx by' < 0) (hz:MkZ (rX ax ay bx by' cx cy dx dy) (rY ax ay bx by' cx cy dx dy) (rD ax ay bx by' cx cy dx dy) X Y D):roV ax ay bx by' X Y D=true∧roV cx cy dx dy X Y D=true:=by
 unfold sS at h g
 rw [sd_N,sd_N,sgn_mul.2] at h g
 obtain ⟨d1,d2,d3⟩:=rD_is ax ay bx by' cx cy dx dy
 have cl:=cr_on ax ay bx by' cx cy dx dy
 obtain ⟨G,hG,e1,e2,e3,hD,_⟩:=hz
 have x1:rX ax ay bx by' cx cy dx dy - ax*rD ax ay bx by' cx cy dx dy=(bx - ax)*nV cx cy dx dy ax ay:=by rw [←d2]; unfold rX; grind
 have x2:bx*rD ax ay bx by' cx cy dx dy - rX ax ay bx by' cx cy dx dy=(bx - ax) * -nV cx cy dx dy bx by':=by unfold rX; rw [d2,d1]; grind
 have y1:rY ax ay bx by' cx cy dx dy - ay*rD ax ay bx by' cx cy dx dy=(by' - ay)*nV cx cy dx dy ax ay:=by rw [←d2]; unfold rY; grind
 have y2:by'*rD ax ay bx by' cx cy dx dy - rY ax ay bx by' cx cy dx dy=(by' - ay) * -nV cx cy dx dy bx by':=by unfold rY; rw [d2,d1]; grind
 have z1:rX ax ay bx by' cx cy dx dy - cx*rD ax ay bx by' cx cy dx dy=(dx - cx) * -nV ax ay bx by' cx cy:=by unfold rX rD rN nV; grind
 have z2:dx*rD ax ay bx by' cx cy dx dy - rX ax ay bx by' cx cy dx dy=(dx - cx)*nV ax ay bx by' dx dy:=by unfold rX rD rN nV; grind
 have w1:rY ax ay bx by' cx cy dx dy - cy*rD ax ay bx by' cx cy dx dy=(dy - cy) * -nV ax ay bx by' cx cy:=by unfold rY rD rN nV; grind
 have w2:dy*rD ax ay bx by' cx cy dx dy - rY ax ay bx by' cx cy dx dy=(dy - cy)*nV ax ay bx by' dx dy:=by unfold rY rD rN nV; grind
 rw [e1,e3] at x1 x2 z1 z2
 rw [e2,e3] at y1 y2 w1 w2
 rw [e1,e2,e3] at cl
 have sg:(0 < G∧0 < nV cx cy dx dy ax ay∧0 < -nV cx cy dx dy bx by'∨G < 0∧nV cx cy dx dy ax ay < 0 ∧ -nV cx cy dx dy bx by' < 0):=by
  rcases h with ⟨a,b⟩ | ⟨a,b⟩
  ·exact .inl ⟨Int.pos_of_mul_pos_left (by omega:0 < G*D) hD,a,by omega⟩
  exact .inr ⟨by
   rcases (show G < 0∨0 < G by omega) with k | k
   ·exact k
   have:=Int.mul_pos k hD; omega,a,by omega⟩
 have sh:(0 < G∧0 < -nV ax ay bx by' cx cy∧0 < nV ax ay bx by' dx dy∨G < 0 ∧ -nV ax ay bx by' cx cy < 0∧nV ax ay bx by' dx dy < 0):=by
  rcases g with ⟨a,b⟩ | ⟨a,b⟩
  ·exact .inr ⟨by
    rcases (show G < 0∨0 < G by omega) with k | k
    ·exact k
    have:=Int.mul_pos k hD; omega,by omega,b⟩
  exact .inl ⟨Int.pos_of_mul_pos_left (by omega:0 < G*D) hD,by omega,b⟩
 have cG:∀ u v:Int,G*u=G*v→u=v:=fun u v e=>Int.eq_of_mul_eq_mul_left hG e
 have bX:=in_sgn sg (A:=X - ax*D) (B:=bx*D - X) (u:=bx - ax) (by grind) (by grind)
 have bY:=in_sgn sg (A:=Y - ay*D) (B:=by'*D - Y) (u:=by' - ay) (by grind) (by grind)
 have cX:=in_sgn sh (A:=X - cx*D) (B:=dx*D - X) (u:=dx - cx) (by grind) (by grind)
 have cY:=in_sgn sh (A:=Y - cy*D) (B:=dy*D - Y) (u:=dy - cy) (by grind) (by grind)
 rw [ro_is hD hs,ro_is hD ht]
 exact ⟨⟨cG _ _ (by grind),box_one hD bX,box_one hD bY⟩,cG _ _ (by grind),box_one hD cX,box_one hD cY⟩
end Go.Proofs.YtdgicnhadecldaaGreat
