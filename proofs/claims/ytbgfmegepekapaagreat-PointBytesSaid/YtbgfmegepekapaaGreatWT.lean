/- Texts of fractions are one to one; the order of the reference's points. No walk. -/
import Derived.Test.YtbgfmegepekapaaGreatB2
import Derived.Test.YtbgfmegepekapaaGreatGM
import Derived.Test.YtbgfmegepekapaaGreatGN
namespace Go.Proofs.YtbgfmegepekapaaGreat
theorem no47 (x:Int):∀ b ∈ decI x,b≠47:=by
 have hd:∀ n,∀ b ∈ dec n,b≠47:=by
  intro n b hb e
  have:=isDig_dec n b hb
  subst e
  exact absurd this (by decide)
 intro b hb e
 unfold decI at hb
 split at hb
 ·rcases List.mem_cons.1 hb with h | h
  ·subst h; exact absurd e (by decide)
  exact hd _ _ h e
 ·exact hd _ _ hb e
theorem split47:∀ (a b r s:List UInt8),(∀ x ∈ a,x≠47)→(∀ x ∈ b,x≠47)→a ++ 47 :: r=b ++ 47 :: s→a=b∧r=s
 | [],[],r,s,_,_,h=>by simp at h; exact ⟨rfl,h⟩
 | [],y :: b,r,s,_,hb,h=>by
  simp only [List.nil_append,List.cons_append] at h
  injection h with h1 _
  exact absurd h1.symm (hb y (List.mem_cons_self ..))
 | x :: a,[],r,s,ha,_,h=>by
  simp only [List.nil_append,List.cons_append] at h
  injection h with h1 _
  exact absurd h1 (ha x (List.mem_cons_self ..))
 | x :: a,y :: b,r,s,ha,hb,h=>by
  simp only [List.cons_append] at h
  injection h with h1 h2
  obtain ⟨e1,e2⟩:=split47 a b r s (fun z hz=>ha z (List.mem_cons_of_mem _ hz)) (fun z hz=>hb z (List.mem_cons_of_mem _ hz)) h2
  exact ⟨by rw [h1,e1],e2⟩
theorem fracT_inj {p q p' q':Int} (h:fracT p q=fracT p' q'):p=p'∧q=q':=by
 unfold fracT at h
 by_cases h1:q=1
 ·by_cases h2:q'=1
  ·rw [if_pos h1,if_pos h2] at h
   exact ⟨decI_inj h,by rw [h1,h2]⟩
  rw [if_pos h1,if_neg h2] at h
  exact absurd rfl (no47 p 47 (by rw [h]; simp))
 ·by_cases h2:q'=1
  ·rw [if_neg h1,if_pos h2] at h
   exact absurd rfl (no47 p' 47 (by rw [←h]; simp))
  ·rw [if_neg h1,if_neg h2] at h
   obtain ⟨e1,e2⟩:=split47 _ _ _ _ (no47 p) (no47 p') h
   exact ⟨decI_inj e1,decI_inj e2⟩
theorem decI_len9 {x:Int} (h:x.natAbs < 1000000000):(decI x).length≤10:=by
 have h1:(dec x.natAbs).length≤9:=(dec_len (by decide)).2 (by simpa using h)
 unfold decI
 split
 ·simp; omega
 ·omega
theorem fracT_len {p q:Int} (hp:p.natAbs < 1000000000) (hq:q.natAbs < 1000000000):(fracT p q).length≤1000:=by
 have h1:=decI_len9 hp
 have h2:=decI_len9 hq
 unfold fracT
 split
 ·omega
 ·simp; omega
end Go.Proofs.YtbgfmegepekapaaGreat
