/- The writer of package wire: Uint and Raw, with what they leave alone above the writer's block. Conditions: as each statement has them. -/
import Derived.Maps.AppendAt
import Derived.Test.YtbgfmegepekapaaGreatB2
import Derived.Test.YtbgfmegepekapaaGreatB6
import Derived.Test.YtbgfmegepekapaaGreatGM
import Derived.Test.YtbgfmegepekapaaGreatGW
namespace Go.Proofs.YtbgfmegepekapaaGreat
open Go.RowKit
/-- The block of an address. -/
def blk (a:Option Addr):Option Nat:=a.map (·.block)
theorem ob (a:Option Addr) (n c:Nat):Value.ownBlock (.slice a n c)=blk a:=by cases a <;> rfl
/-- A writer at block g that contains the bytes bs, its row at a. -/
def WrA (w:World) (g:Nat) (a:Option Addr) (bs:List UInt8):Prop:=∃ c,Boxed w g 37 (.slice a bs.length c)∧w.ownsRow g 5 1 (.slice a bs.length c) bs.length (vs .u8 (bI bs))
theorem WrA.wr {w:World} {g:Nat} {a:Option Addr} {bs:List UInt8} (h:WrA w g a bs):Wr w g bs:=by obtain ⟨c,h1,h2⟩:=h; exact ⟨a,c,h1,h2⟩
theorem WrA.zero (w:World):WrA (w.alloc (.cells #[.slice none 0 0] 37)) w.heap.size none []:=⟨0,Boxed.new w _ _,World.ownsRow_nil _ _ _ _⟩
theorem WrA.mk1 {W:World} {g k c:Nat} {bs:List UInt8} {a:Option Addr} {y:Int} {x:UInt8} (hk:bs.length=k) (hv:Boxed W g 37 (.slice a (k+1) c))
  (hr:W.ownsRow g 5 1 (.slice a (k+1) c) (k+1) (vs .u8 (bI bs) ++ [.int .u8 y])) (hy:y=(x.toNat:Int)):WrA W g a (bs ++ [x]):=by
 subst hk hy
 refine ⟨c,?_,?_⟩
 ·rw [List.length_append]; exact hv
 ·rw [List.length_append,bI_append,vs_append]; exact hr
theorem WrA.mkL {W:World} {g k m c:Nat} {bs l:List UInt8} {a:Option Addr} (hk:bs.length=k) (hm:l.length=m) (hv:Boxed W g 37 (.slice a (k+m) c))
  (hr:W.ownsRow g 5 1 (.slice a (k+m) c) (k+m) (vs .u8 (bI bs) ++ vs .u8 (bI l))):WrA W g a (bs ++ l):=by
 subst hk hm
 refine ⟨c,?_,?_⟩
 ·rw [List.length_append]; exact hv
 ·rw [List.length_append,bI_append,vs_append]; exact hr
theorem WrA.new {W W':World} {g:Nat} {a:Option Addr} {bs:List UInt8} (h:WrA W g a bs) (hb:Below W.heap.size W W'):WrA W' g a bs:=by
 obtain ⟨c,h1,h2⟩:=h
 exact ⟨c,(hb.block g h1.lt).trans h1,own_below h2 hb⟩
/-- All but the writer's block and its row lies as it lay. -/
def FrW (g:Nat) (r:Option Nat) (w w':World):Prop:=Kp (fun X=>X=g∨r=some X) w w'
theorem FrW.refl (g:Nat) (r:Option Nat) (w:World):FrW g r w w:=Kp.refl _ _
/-- The row is that of the beginning, or a new one. -/
def Og (r0 r:Option Nat) (n:Nat):Prop:=r=r0∨∃ x,r=some x∧n≤x
theorem Og.in {g n:Nat} {r0 r:Option Nat} (ho:Og r0 r n):∀ k,r=some k→k < n→k=g∨r0=some k:=by
 intro k hk hl
 rcases ho with rfl | ⟨x,rfl,hx⟩
 ·exact .inr hk
 ·injection hk with e; omega
theorem FrW.step {g:Nat} {r0 r:Option Nat} {w wr w1:World} {o:Obj} {v:Value} (h:FrW g r0 w wr) (ho:Og r0 r w.heap.size) (hg:(wr.alloc o).grownBy w1 r):FrW g r0 w (w1.setCell ⟨g,0,none⟩ v) :=
 Kp.setCell (p:=⟨g,0,none⟩) (Kp.grown (Kp.alloc h o) hg ho.in) (fun _=>.inl rfl) v
theorem FrW.step0 {g:Nat} {r0 r:Option Nat} {w wr w1:World} {v:Value} (h:FrW g r0 w wr) (ho:Og r0 r w.heap.size) (hg:wr.grownBy w1 r):FrW g r0 w (w1.setCell ⟨g,0,none⟩ v) :=
 Kp.setCell (p:=⟨g,0,none⟩) (Kp.grown h hg ho.in) (fun _=>.inl rfl) v
theorem Og.step {r0 r r':Option Nat} {n m:Nat} (h:Og r0 r n) (hn:n≤m) (h':r'=r∨r'=some m):Og r0 r' n:=by
 rcases h' with rfl | rfl
 ·exact h
 ·exact .inr ⟨m,rfl,hn⟩
set_option maxRecDepth 100000 in
set_option maxHeartbeats 800000 in
theorem wuintf_any (n:Nat) (g:Nat) (a0:Option Addr) (bs:List UInt8) (w:World) (hn:n < 18446744073709551616) (h:WrA w g a0 bs) (hl:bs.length≤1000000) :
  Calls Tryz.prog 42 #[.pointer (some ⟨g,0,none⟩),.int .u64 n] w fun e w'=>e=.returned (.tuple #[])∧∃ a,WrA w' g a (bs ++ uv n)∧FrW g (blk a0) w w'∧Og (blk a0) (blk a) w.heap.size∧Below g w w':=by
 obtain ⟨i0,hi0,hz0,hz1,hz2⟩:=info_parts byte_info
 have HW:=hJ h
 have HL:=hJ (uv_len10 hn)
 have HN:=hJ hn
 clear hn h
 go_enter Tryz.func42,Tryz.ntmps42
 go_wp2
 go_loopw [1] (fun i wr=>∃ (m:Nat) (pre:List UInt8) (a2:Option Addr),m≤n∧i=.int .u64 (m:Int)∧pre ++ uv m=uv n∧WrA wr g a2 (bs ++ pre)∧FrW g (blk a0) w wr∧Og (blk a0) (blk a2) w.heap.size∧Below g w wr) (fun i _=>(intOf i).toNat)
 case atStart=>exact ⟨n,[],a0,Nat.le_refl _,rfl,rfl,by rw [List.append_nil]; exact HW.out,FrW.refl _ _ _,.inl rfl,Below.refl _ _⟩
 case round =>
  obtain ⟨m,pre,a2,hm,rfl,hpre,⟨c2,hbx2,hown2⟩,hfr,hog,hb⟩:=hrel
  have aC:=hJ hfr
  have aD:=hJ hog
  clear hfr hog
  have HP:=hJ hpre
  have hpl:pre.length≤10:=by
   have:=HL.out
   rw [←HP.out,List.length_append] at this
   omega
  have hc:=hbx2.cell
  have hf:=hbx2.frozen
  obtain ⟨k,hk⟩:∃ k,(bs ++ pre).length=k:=⟨_,rfl⟩
  rw [hk] at hc hbx2 hown2
  have hkl:k≤1000010:=by rw [←hk,List.length_append]; omega
  have HK:=hJ hk
  obtain ⟨z,hz⟩:∃ z:Int,(m:Int)=z:=⟨_,rfl⟩
  have hzl:0≤z:=by omega
  have hzr:z < 18446744073709551616:=by have:=HN.out; omega
  rw [hz]
  have HZ:=hJ hz
  have HM:=hJ hm
  have aG:=hJ (show k+1≤maxLen by unfold maxLen; omega)
  have aH:=hJ (show (k+1)*1≤140737488355328 by omega)
  have aF:=hJ (show g≤wr.heap.size from Nat.le_of_lt hbx2.lt)
  by_cases h128:128≤z
  ·clear hk hpre hz hm
   go_wp2_with (at_builtin; refine wpList_append_own_at _ rfl _ _ 22 rfl g 5 i0 (.int .u8 0) 1 1 Tryz.underlying22 hi0 hz0 hz1 hz2 rfl (by decide) (.slice a2 k c2) _ _ rfl (hown2.alloc _) ⟨wr.heap.size,0,none⟩ 1 1 [_] rfl rfl (cell_one_new _ _ _) (one_cells _ _) aG.out aH.out (alloc_ge aF.out) ?_; intro v' w1 hown' hgrow _ hat; rw [ob] at hat; have aA:=hJ hgrow; rw [ob] at aA; have aB:=hJ hat; clear hat; obtain ⟨g',cap',rfl⟩:=ownsRow_succ hown'; rw [ob] at aB; obtain ⟨hv1,hv2,hr2,_,hb2⟩:=hbx2.appended (by decide) hown2 aF.out (Nat.le_refl _) hown' hgrow; have hc1:=hv1.cell; have hf1:=hv1.frozen)
   go_roundw
   case rel =>
    refine ⟨m / 128,pre ++ [UInt8.ofNat (m % 128+128)],some ⟨g',0,none⟩,?_,?_,?_,?_,aC.out.step aD.out aA.out,aD.out.step (by have:=aC.out.size; simp; omega) aB.out,hb.trans hb2⟩
    ·have:=HM.out; omega
    ·have:=HZ.out; exact congrArg _ (by omega)
    ·rw [List.append_assoc,List.singleton_append,←uv_ge (by have:=HZ.out; omega)]; exact HP.out
    rw [←List.append_assoc]
    refine WrA.mk1 HK.out hv2 hr2 ?_
    rw [or128' _ (by omega) (by omega),u8nat _ (by omega)]
    have:=HZ.out
    omega
   case measure=>simp [intOf]; omega
  ·clear hk hpre hz hm
   go_wp2_with (at_builtin; refine wpList_append_own_at _ rfl _ _ 22 rfl g 5 i0 (.int .u8 0) 1 1 Tryz.underlying22 hi0 hz0 hz1 hz2 rfl (by decide) (.slice a2 k c2) _ _ rfl (hown2.alloc _) ⟨wr.heap.size,0,none⟩ 1 1 [_] rfl rfl (cell_one_new _ _ _) (one_cells _ _) aG.out aH.out (alloc_ge aF.out) ?_; intro v' w1 hown' hgrow _ hat; rw [ob] at hat; have aA:=hJ hgrow; rw [ob] at aA; have aB:=hJ hat; clear hat; obtain ⟨g',cap',rfl⟩:=ownsRow_succ hown'; rw [ob] at aB; obtain ⟨hv1,hv2,hr2,_,hb2⟩:=hbx2.appended (by decide) hown2 aF.out (Nat.le_refl _) hown' hgrow; have hc1:=hv1.cell; have hf1:=hv1.frozen)
   go_end0
   refine ⟨rfl,some ⟨g',0,none⟩,?_,aC.out.step aD.out aA.out,aD.out.step (by have:=aC.out.size; simp; omega) aB.out,hb.trans hb2⟩
   rw [←HP.out,uv_lt (by have:=HZ.out; omega),←List.append_assoc]
   refine WrA.mk1 HK.out hv2 hr2 ?_
   have:=HZ.out
   rw [u8nat _ (by omega)]
   omega
set_option maxRecDepth 100000 in
set_option maxHeartbeats 800000 in
theorem wrawf_any (l:List UInt8) (A:Option Addr) (m c:Nat) (g:Nat) (a0:Option Addr) (bs:List UInt8) (w:World) (hm:l.length=m) (hml:m≤1000) (hr:In .u8 w (fun X=>X < w.heap.size∧X≠g∧blk a0≠some X) (.slice A m c) (bI l)) (h:WrA w g a0 bs) (hl:bs.length≤900000) :
  Calls Tryz.prog 9 #[.pointer (some ⟨g,0,none⟩),.slice A m c] w fun e w'=>e=.returned (.tuple #[])∧∃ a,WrA w' g a (bs ++ (uv l.length ++ l))∧FrW g (blk a0) w w'∧Below g w w':=by
 obtain ⟨i0,hi0,hz0,hz1,hz2⟩:=info_parts byte_info
 have HU:=hJ (uv_len10 (n:=m) (by omega))
 have HM:=hJ hm
 have HR:=hJ hr
 clear hm hr
 go_enter Tryz.func9,Tryz.ntmps9
 go_wp2_with fail
 refine (wuintf_any m g a0 bs w (by omega) h (by omega)).mono ?_
 rintro e w1 ⟨rfl,a2,⟨c2,hbx2,hown2⟩,hfr,hog,hb⟩
 have aA:=hJ hfr
 have aD:=hJ hog
 clear hfr hog
 have hc:=hbx2.cell
 have hf:=hbx2.frozen
 obtain ⟨k,hk⟩:∃ k,(bs ++ uv m).length=k:=⟨_,rfl⟩
 rw [hk] at hc hbx2 hown2
 have hkl:k≤900010:=by rw [←hk,List.length_append]; have:=HU.out; omega
 have HK:=hJ hk
 have aF:=hJ (show k+m≤maxLen by unfold maxLen; omega)
 have aG:=hJ (show (k+m)*1≤140737488355328 by omega)
 have aB:=hJ (show g≤w1.heap.size from Nat.le_of_lt hbx2.lt)
 have aH:=hJ (HR.out.kp (t:=fun X=>X=g∨blk a0=some X) aA.out (fun X _ hX hn=>hn.elim hX.2.1 hX.2.2))
 clear hk
 go_wp2_with (at_builtin; refine wpList_append_in rfl _ _ 22 rfl g 5 i0 (.int .u8 0) 1 Tryz.underlying22 hi0 hz0 hz1 hz2 rfl (.slice a2 k c2) _ _ rfl hown2 .u8 _ _ _ _ _ rfl aH.out aF.out aG.out aB.out ?_; intro v' w2 hown' hgrow; have aC:=hJ hgrow; rw [ob] at aC; obtain ⟨a3,c3,rfl⟩:=own_form hown'; obtain ⟨hv1,hv2,hr2,hb2⟩:=appended0 hbx2 (by decide) hown2 aB.out (Nat.le_refl _) hown' hgrow; have hc1:=hv1.cell; have hf1:=hv1.frozen)
 go_end0
 refine ⟨rfl,a3,?_,aA.out.step0 aD.out aC.out,hb.trans hb2⟩
 rw [←List.append_assoc,HM.out]
 exact WrA.mkL HK.out HM.out hv2 hr2
end Go.Proofs.YtbgfmegepekapaaGreat
