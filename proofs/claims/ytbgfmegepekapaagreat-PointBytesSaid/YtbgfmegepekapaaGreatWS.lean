/- Contracts of the reference's SameInts and SameBytes: whether two slices have equal elements; what lay lies as it lay. -/
import Derived.Deep.QuietTactic
import Derived.BigQuiet
import Derived.Test.YtbgfmegepekapaaGreatB2
namespace Go.Proofs.YtbgfmegepekapaaGreat
open Go.RowKit

theorem take_eq_succ {xs ys:List Int} {k:Nat} (h:xs.take k=ys.take k) (hx:k < xs.length) (hy:k < ys.length) (he:xs.getD k 0=ys.getD k 0):xs.take (k+1)=ys.take (k+1):=by
 rw [List.take_add_one,List.take_add_one,h,List.getElem?_eq_getElem hx,List.getElem?_eq_getElem hy]
 rw [List.getD_eq_getElem?_getD,List.getD_eq_getElem?_getD,List.getElem?_eq_getElem hx,List.getElem?_eq_getElem hy] at he
 simp at he
 rw [he]
theorem getD_ne {xs ys:List Int} {k:Nat} (he:xs.getD k 0≠ys.getD k 0):xs≠ys:=fun e=>he (by rw [e])

set_option maxHeartbeats 800000 in
theorem sameBytes_any (xs ys:List Int) (a a':Option Addr) (n n' c c' B B':Nat) (same:Bool) (w:World) (hn:n=xs.length) (hn':n'=ys.length) (hl:n≤60000) (hl':n'≤60000)
  (h:Rd .u8 w B (.slice a n c) xs) (h':Rd .u8 w B' (.slice a' n' c') ys) (hB:B≤w.heap.size) (hB':B'≤w.heap.size) (hs:decide (xs=ys)=same) :
  Calls Tryz.prog 13 #[.slice a n c,.slice a' n' c'] w fun e w'=>e=.returned (.bool same)∧Below w.heap.size w w':=by
 have HN:=hJ hn
 have aA:=hJ hn'
 have HS:=hJ hs
 have HR:=hJ h
 have aB:=hJ h'
 clear hn hn' hs h h'
 by_cases hnn:n=n'
 ·subst hnn
  go_enter Tryz.func13,Tryz.ntmps13
  go_wp2
  go_loopw [5] (fun i wr=>∃ k:Nat,k≤n∧i=.int .i64 k∧xs.take k=ys.take k∧Below w.heap.size w wr) (fun i _=>n - (intOf i).toNat)
  case atStart=>exact ⟨0,by omega,rfl,rfl,Below.refl _ _⟩
  case round =>
   obtain ⟨k,hk,rfl,hpre,hb⟩:=hrel
   have HP:=hJ hpre
   clear hpre
   by_cases hlt:k < n
   ·obtain ⟨b1,o1,rfl,_,hc1⟩:=(HR.out.below hb hB).at_ (j:=k) (by rw [←HN.out]; exact hlt)
    obtain ⟨b2,o2,rfl,_,hc2⟩:=(aB.out.below hb hB').at_ (j:=k) (by rw [←aA.out]; exact hlt)
    have HE:=hJ (fun he=>take_eq_succ HP.out (by rw [←HN.out]; exact hlt) (by rw [←aA.out]; exact hlt) he)
    have HF:=hJ (fun he=>getD_ne (xs:=xs) (ys:=ys) (k:=k) he)
    generalize xs.getD k 0=p at hc1 HE HF
    generalize ys.getD k 0=q at hc2 HE HF
    by_cases hpq:p=q
    ·subst hpq
     have aC:=hJ (HE.out rfl)
     clear HE HF
     go_wp2
     go_quiet (fail)
     go_wp2
     go_roundw
     case rel=>exact ⟨k+1,by omega,by go_num,aC.out,by exact ⟨hb.os,hb.tape,hb.output,hb.size,hb.block⟩⟩
     case measure=>simp [intOf]; omega
    have hq2:(p != q)=true:=by rw [bne_iff_ne]; exact hpq
    have HQ:=hJ (HF.out hpq)
    clear hpq HE HF
    go_wp2
    go_quiet (fail)
    go_wp2
    go_ret
    refine ⟨?_,⟨hb.os,hb.tape,hb.output,hb.size,hb.block⟩⟩
    rw [←HS.out,decide_eq_false HQ.out]
    rfl
   have hall:xs=ys:=by
    have:=HP.out
    rw [List.take_of_length_le (by rw [←HN.out]; omega),List.take_of_length_le (by rw [←aA.out]; omega)] at this
    exact this
   have HA:=hJ hall
   clear hall
   go_wp2
   go_ret
   refine ⟨?_,hb⟩
   rw [←HS.out,decide_eq_true HA.out]
   rfl
 ·have hne:((n:Int) != (n':Int))=true:=by rw [bne_iff_ne]; omega
  have HQ:=hJ (show xs≠ys from fun e=>hnn (by rw [HN.out,aA.out,e]))
  go_enter Tryz.func13,Tryz.ntmps13
  go_wp2
  go_ret
  refine ⟨?_,Below.refl _ _⟩
  rw [←HS.out,decide_eq_false HQ.out]
  rfl
end Go.Proofs.YtbgfmegepekapaaGreat
