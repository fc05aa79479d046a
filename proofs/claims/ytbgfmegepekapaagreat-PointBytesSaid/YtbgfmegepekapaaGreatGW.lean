/- The writer of package wire, for longer texts. -/
import Derived.Lib.Hide
import Derived.Lib.SliceRun
import Derived.LoopTactic
import Derived.Outline
import Derived.RangeFuncBox
import Derived.WalkKit
import Derived.WalkLawsBesides
import Derived.WalkSpells
import Derived.Test.YtbgfmegepekapaaGreatB2
import Derived.Test.YtbgfmegepekapaaGreatB6
import Derived.Test.YtbgfmegepekapaaGreatGM
namespace Go.Proofs.YtbgfmegepekapaaGreat
open Go.RowKit
/-- n modulo most, never negative. -/
def aroundI (v:Int) (n:Nat):Nat:=((if v < 0 then -(v+1) else v) % (n:Int)).toNat
theorem around_any (v:Int) (n:Nat) (w:World) (h1:1≤n) (hn:n≤20000) (hv:(Lit.int .i64 v).wf=true) :
  Calls Tryz.prog 16 #[.int .i64 v,.int .i64 n] w fun e w'=>e=.returned (.int .i64 (aroundI v n:Nat))∧w=w':=by
 have hb : -9223372036854775808≤v∧v≤9223372036854775807:=by
  simpa [Lit.wf,IntKind.min,IntKind.max,IntKind.signed,IntKind.bits] using hv
 obtain ⟨hb1,hb2⟩:=hb
 have e:((aroundI v n:Nat):Int)=(if v < 0 then -(v+1) else v) % (n:Int):=by
  unfold aroundI
  have:=Int.emod_nonneg (if v < 0 then -(v+1) else v) (show (n:Int)≠0 by omega)
  omega
 rw [e]
 clear e hv
 by_cases h:v < 0
 ·rw [if_pos h,←Int.tmod_eq_emod_of_nonneg (show 0 ≤ -(v+1) by omega),Int.neg_tmod]
  go_enter Tryz.func16,Tryz.ntmps16
  go_wp2
  go_ret
  exact ⟨rfl,rfl⟩
 ·rw [if_neg h]
  go_enter Tryz.func16,Tryz.ntmps16
  go_wp2
  go_ret
  exact ⟨rfl,rfl⟩

theorem byte_info:(Tryz.prog.info? 5).map (fun i=>(i.zero,i.size,i.bytes))=some (some (.int .u8 0),1,1):=by kernel_rfl
/-- A new slice with a list of integers in it, in memory of the call's own. -/
def Fresh (k:IntKind) (t:TypeId) (xs:List Int) (w:World) (e:Ending) (w':World):Prop :=
 ∃ a c,e=.returned (.slice a xs.length c)∧w'.ownsRow w.heap.size t 1 (.slice a xs.length c) xs.length (vs k xs)∧Below w.heap.size w w'

theorem few_any (sv:Value) (xs:List Int) (m:Nat) (w:World) (h:Src .u8 w sv xs) (hx:xs.length≤maxLen) (hm:m≤20000) :
  Calls Tryz.prog 15 #[sv,.int .i64 m] w (Fresh .u8 5 (xs.take m) w):=by
 unfold maxLen at hx
 obtain ⟨i0,hi,hz0,hz1,hz2⟩:=info_parts byte_info
 rcases h with ⟨rfl,rfl⟩ | ⟨ad,c,rfl,hc,hcell⟩
 ·rw [List.take_nil]
  go_enter Tryz.func15,Tryz.ntmps15
  go_wp2_with (at_builtin; refine wpList_append_own_none rfl _ _ 22 rfl w.heap.size 5 i0 1 Tryz.underlying22 hi (.slice none 0 0) 0 [] rfl (World.ownsRow_nil _ _ _ _) rfl ?_)
  go_ret
  exact ⟨none,0,rfl,by simpa [vs] using World.ownsRow_nil _ _ _ _,Below.refl _ _⟩
 ·have key:∀ (n:Nat) (w':World) (v':Value),n=(xs.take m).length→w'.ownsRow w.heap.size 5 1 v' (0+n) ([] ++ vs .u8 (xs.take m))→w.grownBy w' (Value.slice none 0 0).ownBlock→Fresh .u8 5 (xs.take m) w (.returned v') w':=by
   intro n w' v' hn hown hg
   subst hn
   rw [Nat.zero_add,List.nil_append] at hown
   obtain ⟨a,c',rfl⟩:=own_form hown
   exact ⟨a,c',rfl,hown,(Below.refl _ w).grown hg (Nat.le_refl _) (by simp [Value.ownBlock])⟩
  have hcell':∀ j u,(vs .u8 (xs.take m))[j]?=some u→w.cell? (ad.add j)=some u:=by
   intro j u hu
   simp only [vs,List.getElem?_map,Option.map_eq_some_iff] at hu
   obtain ⟨v,hv,rfl⟩:=hu
   rw [List.getElem?_take] at hv
   split at hv
   ·exact hcell j v hv
   cases hv
  have h1:=vs_one .u8 (xs.take m)
  by_cases hlt:m < xs.length
  ·have hl:(vs .u8 (xs.take m)).length=m*1:=by rw [vs_length,List.length_take]; omega
   have K:=hJ (key m · · (by rw [List.length_take]; omega))
   have C:=hJ hcell'
   clear key hcell' hcell
   go_enter Tryz.func15,Tryz.ntmps15
   go_wp2_with (at_builtin; refine wpList_append_own _ rfl _ _ 22 rfl w.heap.size 5 i0 (.int .u8 0) 1 1 Tryz.underlying22 hi hz0 hz1 hz2 rfl (by decide) _ _ _ rfl (World.ownsRow_nil _ _ _ _) ad m _ (vs .u8 (xs.take m)) rfl hl C.out h1 (by unfold maxLen; omega) (by omega) (Nat.le_refl _) ?_; intro v' w1 hown' hgrow _)
   go_ret
   exact K.out _ _ hown' hgrow
  ·have hl:(vs .u8 (xs.take m)).length=xs.length*1:=by rw [vs_length,List.length_take]; omega
   have K:=hJ (key xs.length · · (by rw [List.length_take]; omega))
   have C:=hJ hcell'
   clear key hcell' hcell
   go_enter Tryz.func15,Tryz.ntmps15
   go_wp2_with (at_builtin; refine wpList_append_own _ rfl _ _ 22 rfl w.heap.size 5 i0 (.int .u8 0) 1 1 Tryz.underlying22 hi hz0 hz1 hz2 rfl (by decide) _ _ _ rfl (World.ownsRow_nil _ _ _ _) ad xs.length _ (vs .u8 (xs.take m)) rfl hl C.out h1 (by unfold maxLen; omega) (by omega) (Nat.le_refl _) ?_; intro v' w1 hown' hgrow _)
   go_ret
   exact K.out _ _ hown' hgrow
end Go.Proofs.YtbgfmegepekapaaGreat

/- Bits: the expressions of package wire over 64-bit and 8-bit numbers. Conditions: the numbers are in range. -/
namespace Go.Proofs.YtbgfmegepekapaaGreat
open Go.RowKit

theorem or128_nat:∀ x:Nat,x < 256→x ||| 128=x % 128+128:=by decide +kernel
theorem or128 (x:Nat) (h:x < 256):bits .or .u8 (x:Int) 128=((x % 128+128:Nat):Int):=by
 rw [show (128:Int)=((128:Nat):Int) from rfl,u8_or_nat x 128 h (by decide),or128_nat x h]
theorem or128' (x:Int) (h0:0≤x) (h:x < 256):bits .or .u8 x 128=x % 128+128:=by
 obtain ⟨n,rfl⟩:=Int.eq_ofNat_of_zero_le h0
 rw [or128 n (by omega)]; omega
theorem or_join (a x i:Nat) (ha:a < 128 ^ i) (hx:a+x*128 ^ i < 18446744073709551616):bits .or .u64 (a:Int) ((x*128 ^ i:Nat):Int)=((a+x*128 ^ i:Nat):Int):=by
 rw [u64_or_nat _ _ (by omega) (by omega)]
 have e:128 ^ i=2 ^ (7*i):=by rw [show (128:Nat)=2 ^ 7 from rfl,←Nat.pow_mul]
 rw [Nat.or_comm,nat_join (7*i) (x*128 ^ i) a (by rw [e]; exact Nat.mul_mod_left _ _) (by rw [←e]; exact ha),Nat.add_comm]
theorem p128_9:(128:Nat) ^ 9=9223372036854775808:=by decide
theorem or_step9 (acc:Nat) (h:acc < 128 ^ 9):bits .or .u64 (acc:Int) 9223372036854775808=((acc+1*128 ^ 9:Nat):Int):=by
 have:=or_join acc 1 9 h (by rw [p128_9] at h ⊢; omega)
 rw [←this,Nat.one_mul,p128_9]
 rfl
theorem acc_bd {acc c i:Nat} (h:acc < 128 ^ i):acc+c % 128*128 ^ i < 128 ^ (i+1):=by
 have h1:c % 128*128 ^ i≤127*128 ^ i:=Nat.mul_le_mul_right _ (by omega)
 rw [Nat.pow_succ]
 omega
theorem or_stepI (acc c i:Nat) (x:Int) (hx:(c:Int)=x) (hi:i < 9) (h:acc < 128 ^ i):bits .or .u64 (acc:Int) (IntKind.u64.wrap (x % 128*2 ^ (i*7)))=((acc+c % 128*128 ^ i:Nat):Int):=by
 subst hx
 have hb:=acc_bd (c:=c) h
 have hp:128 ^ (i+1)≤128 ^ 9:=Nat.pow_le_pow_right (by omega) (by omega)
 rw [p128_9] at hp
 have e:(c:Int) % 128*2 ^ (i*7)=((c % 128*128 ^ i:Nat):Int):=by
  have e2:(128:Nat) ^ i=2 ^ (i*7):=by rw [show (128:Nat)=2 ^ 7 from rfl,←Nat.pow_mul,Nat.mul_comm]
  rw [e2]
  push_cast
  rfl
 rw [e,IntWalk.u64_in _ (by omega)]
 exact or_join acc (c % 128) i h (by omega)
theorem or_step0 (acc c:Nat) (x:Int) (hx:(c:Int)=x) (h:acc < 128 ^ 0):bits .or .u64 (acc:Int) (x % 128)=((acc+c % 128*128 ^ 0:Nat):Int):=by
 subst hx
 have h1:acc=0:=by simpa using h
 subst h1
 rw [show (c:Int) % 128=((c % 128:Nat):Int) by omega,u64_or_nat 0 _ (by decide) (by omega)]
 simp
end Go.Proofs.YtbgfmegepekapaaGreat

/- Contracts of the program's writer: each method appends the encoding of its argument; below the writer's block all is as it was. -/
namespace Go.Proofs.YtbgfmegepekapaaGreat
open Go.RowKit

/-- A writer at block g that contains the bytes bs. -/
def Wr (w:World) (g:Nat) (bs:List UInt8):Prop:=∃ a c,Boxed w g 37 (.slice a bs.length c)∧w.ownsRow g 5 1 (.slice a bs.length c) bs.length (vs .u8 (bI bs))
theorem bI_append (x y:List UInt8):bI (x ++ y)=bI x ++ bI y:=by simp [bI]
theorem vs_append (k:IntKind) (x y:List Int):vs k (x ++ y)=vs k x ++ vs k y:=by simp [vs]
theorem Wr.mk1 {W:World} {g k c:Nat} {bs:List UInt8} {a:Option Addr} {y:Int} {x:UInt8} (hk:bs.length=k) (hv:Boxed W g 37 (.slice a (k+1) c))
  (hr:W.ownsRow g 5 1 (.slice a (k+1) c) (k+1) (vs .u8 (bI bs) ++ [.int .u8 y])) (hy:y=(x.toNat:Int)):Wr W g (bs ++ [x]):=by
 subst hk hy
 refine ⟨a,c,?_,?_⟩
 ·rw [List.length_append]; exact hv
 ·rw [List.length_append,bI_append,vs_append]; exact hr
theorem Wr.mkL {W:World} {g k m c:Nat} {bs l:List UInt8} {a:Option Addr} (hk:bs.length=k) (hm:l.length=m) (hv:Boxed W g 37 (.slice a (k+m) c))
  (hr:W.ownsRow g 5 1 (.slice a (k+m) c) (k+m) (vs .u8 (bI bs) ++ vs .u8 (bI l))):Wr W g (bs ++ l):=by
 subst hk hm
 refine ⟨a,c,?_,?_⟩
 ·rw [List.length_append]; exact hv
 ·rw [List.length_append,bI_append,vs_append]; exact hr
theorem Wr.kp {W W':World} {t:Nat→Prop} {g:Nat} {bs:List UInt8} (h:Wr W g bs) (hk:Kp t W W') (ht:∀ b,b < W.heap.size→g≤b→¬ t b):Wr W' g bs:=by
 obtain ⟨a,c,hb,ho⟩:=h
 refine ⟨a,c,(hk.block g hb.lt (ht g hb.lt (Nat.le_refl _))).trans hb,ho.1,?_⟩
 rcases ho.2 with h0 | ⟨b,cap,cur,h1,h2,h3,h4⟩
 ·exact .inl h0
 ·exact .inr ⟨b,cap,cur,h1,h2,(hk.block b (Array.getElem?_eq_some_iff.1 h3).1 (ht b (Array.getElem?_eq_some_iff.1 h3).1 h2)).trans h3,h4⟩
theorem Wr.new {W W':World} {g:Nat} {bs:List UInt8} (h:Wr W g bs) (hb:Below W.heap.size W W'):Wr W' g bs:=h.kp (t:=fun _=>False) (Kp.new hb) fun _ _ _ e=>e
theorem Wr.lt {W:World} {g:Nat} {bs:List UInt8} (h:Wr W g bs):g < W.heap.size:=by
 obtain ⟨a,c,hb,_⟩:=h
 exact hb.lt
/-- A new writer. -/
theorem Wr.zero (w:World):Wr (w.alloc (.cells #[.slice none 0 0] 37)) w.heap.size [] :=
 ⟨none,0,Boxed.new w _ _,World.ownsRow_nil _ _ _ _⟩

set_option maxHeartbeats 800000 in
theorem wuint_any (n:Nat) (g:Nat) (bs:List UInt8) (w:World) (hn:n < 18446744073709551616) (h:Wr w g bs) (hl:bs.length≤1000000) :
  Calls Tryz.prog 42 #[.pointer (some ⟨g,0,none⟩),.int .u64 n] w fun e w'=>e=.returned (.tuple #[])∧Wr w' g (bs ++ uv n)∧Below g w w':=by
 obtain ⟨i0,hi0,hz0,hz1,hz2⟩:=info_parts byte_info
 have HW:=hJ h
 have HL:=hJ (uv_len10 hn)
 have HN:=hJ hn
 clear hn h
 go_enter Tryz.func42,Tryz.ntmps42
 go_wp2
 go_loopw [1] (fun i wr=>∃ (m:Nat) (pre:List UInt8),m≤n∧i=.int .u64 (m:Int)∧pre ++ uv m=uv n∧Wr wr g (bs ++ pre)∧Below g w wr) (fun i _=>(intOf i).toNat)
 case atStart=>exact ⟨n,[],Nat.le_refl _,rfl,rfl,by rw [List.append_nil]; exact HW.out,Below.refl _ _⟩
 case round =>
  obtain ⟨m,pre,hm,rfl,hpre,⟨a2,c2,hbx2,hown2⟩,hb⟩:=hrel
  have HP:=hJ hpre
  have hpl:pre.length≤10:=by
   have:=HL.out
   rw [←HP.out,List.length_append] at this
   omega
  have hc:=hbx2.cell
  have hf:=hbx2.frozen
  obtain ⟨k,hk⟩:∃ k,(bs ++ pre).length=k:=⟨_,rfl⟩
  rw [hk] at hc hbx2 hown2
  have hkl:k≤1000010:=by rw [←hk,List.length_append]; omega
  have HK:=hJ hk
  obtain ⟨z,hz⟩:∃ z:Int,(m:Int)=z:=⟨_,rfl⟩
  have hzl:0≤z:=by omega
  have hzr:z < 18446744073709551616:=by have:=HN.out; omega
  rw [hz]
  have HZ:=hJ hz
  have HM:=hJ hm
  have aB:=hJ (show k+1≤maxLen by unfold maxLen; omega)
  have aC:=hJ (show (k+1)*1≤140737488355328 by omega)
  have aA:=hJ (show g≤wr.heap.size from Nat.le_of_lt hbx2.lt)
  by_cases h128:128≤z
  ·clear hk hpre hz hm
   go_wp2_with (at_builtin; refine wpList_append_own _ rfl _ _ 22 rfl g 5 i0 (.int .u8 0) 1 1 Tryz.underlying22 hi0 hz0 hz1 hz2 rfl (by decide) _ _ _ rfl (hown2.alloc _) ⟨wr.heap.size,0,none⟩ 1 1 [_] rfl rfl (cell_one_new _ _ _) (one_cells _ _) aB.out aC.out (alloc_ge aA.out) ?_; intro v' w1 hown' hgrow _; obtain ⟨g',cap',rfl⟩:=ownsRow_succ hown'; obtain ⟨hv1,hv2,hr2,_,hb2⟩:=hbx2.appended (by decide) hown2 aA.out (Nat.le_refl _) hown' hgrow; have hc1:=hv1.cell; have hf1:=hv1.frozen)
   go_roundw
   case rel =>
    refine ⟨m / 128,pre ++ [UInt8.ofNat (m % 128+128)],?_,?_,?_,?_,hb.trans hb2⟩
    ·have:=HM.out; omega
    ·have:=HZ.out; exact congrArg _ (by omega)
    ·rw [List.append_assoc,List.singleton_append,←uv_ge (by have:=HZ.out; omega)]; exact HP.out
    rw [←List.append_assoc]
    refine Wr.mk1 HK.out hv2 hr2 ?_
    rw [or128' _ (by omega) (by omega),u8nat _ (by omega)]
    have:=HZ.out
    omega
   case measure=>simp [intOf]; omega
  ·clear hk hpre hz hm
   go_wp2_with (at_builtin; refine wpList_append_own _ rfl _ _ 22 rfl g 5 i0 (.int .u8 0) 1 1 Tryz.underlying22 hi0 hz0 hz1 hz2 rfl (by decide) _ _ _ rfl (hown2.alloc _) ⟨wr.heap.size,0,none⟩ 1 1 [_] rfl rfl (cell_one_new _ _ _) (one_cells _ _) aB.out aC.out (alloc_ge aA.out) ?_; intro v' w1 hown' hgrow _; obtain ⟨g',cap',rfl⟩:=ownsRow_succ hown'; obtain ⟨hv1,hv2,hr2,_,hb2⟩:=hbx2.appended (by decide) hown2 aA.out (Nat.le_refl _) hown' hgrow; have hc1:=hv1.cell; have hf1:=hv1.frozen)
   go_end0
   refine ⟨rfl,?_,hb.trans hb2⟩
   rw [←HP.out,uv_lt (by have:=HZ.out; omega),←List.append_assoc]
   refine Wr.mk1 HK.out hv2 hr2 ?_
   have:=HZ.out
   rw [u8nat _ (by omega)]
   omega
theorem appended0 {W w1:World} {n₀ B:Nat} {t e:TypeId} {size:Nat} {v v':Value} {k m:Nat} {xs ys:List Value}
  (hv:Boxed W B t v) (hte:t≠e) (hrow:W.ownsRow n₀ e size v k xs) (hn₀:n₀≤W.heap.size) (hB:n₀≤B)
  (hown':w1.ownsRow n₀ e size v' m ys) (hgrow:W.grownBy w1 v.ownBlock) :
  Boxed w1 B t v∧Boxed (w1.setCell ⟨B,0,none⟩ v') B t v'∧(w1.setCell ⟨B,0,none⟩ v').ownsRow n₀ e size v' m ys∧Below n₀ W (w1.setCell ⟨B,0,none⟩ v'):=by
 have hv1:Boxed w1 B t v:=hv.kept hgrow (hv.not_row hte hrow)
 exact ⟨hv1,hv1.set v',hown'.kept (grownBy_setCell' w1 B v') (.inr (hv1.not_row hte hown').symm),((Below.refl n₀ W).grown hgrow hn₀ (own_block_ge hrow)).setCell (p:=⟨B,0,none⟩) hB v'⟩
theorem In.lt_below {k:IntKind} {w w':World} {g:Nat} {sv:Value} {xs:List Int} (h:In k w (· < g) sv xs) (hb:Below g w w') (_hg:g≤w.heap.size):In k w' (· < g) sv xs :=
 h.kp (t:=(g ≤ ·)) (Kp.of_below hb fun _ _ h=>h) fun _ _ hb=>Nat.not_le_of_lt hb
theorem bI_len (l:List UInt8):(bI l).length=l.length:=by simp [bI]

set_option maxHeartbeats 800000 in
theorem wraw_any (l:List UInt8) (A:Option Addr) (m c:Nat) (g:Nat) (bs:List UInt8) (w:World) (hm:l.length=m) (hml:m≤20000) (hr:In .u8 w (· < g) (.slice A m c) (bI l)) (h:Wr w g bs) (hl:bs.length≤900000) :
  Calls Tryz.prog 9 #[.pointer (some ⟨g,0,none⟩),.slice A m c] w fun e w'=>e=.returned (.tuple #[])∧Wr w' g (bs ++ (uv l.length ++ l))∧Below g w w':=by
 obtain ⟨i0,hi0,hz0,hz1,hz2⟩:=info_parts byte_info
 have HU:=hJ (uv_len10 (n:=m) (by omega))
 have HM:=hJ hm
 have HR:=hJ hr
 clear hm hr
 go_enter Tryz.func9,Tryz.ntmps9
 go_wp2_with fail
 refine (wuint_any m g bs w (by omega) h (by omega)).mono ?_
 have HG:=hJ (Nat.le_of_lt h.lt)
 rintro e w1 ⟨rfl,⟨a2,c2,hbx2,hown2⟩,hb⟩
 have hc:=hbx2.cell
 have hf:=hbx2.frozen
 obtain ⟨k,hk⟩:∃ k,(bs ++ uv m).length=k:=⟨_,rfl⟩
 rw [hk] at hc hbx2 hown2
 have hkl:k≤900010:=by rw [←hk,List.length_append]; have:=HU.out; omega
 have HK:=hJ hk
 have aB:=hJ (show k+m≤maxLen by unfold maxLen; omega)
 have aC:=hJ (show (k+m)*1≤140737488355328 by omega)
 have aA:=hJ (show g≤w1.heap.size from Nat.le_of_lt hbx2.lt)
 have aD:=hJ (HR.out.lt_below hb HG.out)
 clear hk
 go_wp2_with (at_builtin; refine wpList_append_in rfl _ _ 22 rfl g 5 i0 (.int .u8 0) 1 Tryz.underlying22 hi0 hz0 hz1 hz2 rfl _ _ _ rfl hown2 .u8 _ _ _ _ _ rfl aD.out aB.out aC.out aA.out ?_; intro v' w2 hown' hgrow; obtain ⟨a3,c3,rfl⟩:=own_form hown'; obtain ⟨hv1,hv2,hr2,hb2⟩:=appended0 hbx2 (by decide) hown2 aA.out (Nat.le_refl _) hown' hgrow; have hc1:=hv1.cell; have hf1:=hv1.frozen)
 go_end0
 refine ⟨rfl,?_,hb.trans hb2⟩
 rw [←List.append_assoc,HM.out]
 exact Wr.mkL HK.out HM.out hv2 hr2
set_option maxHeartbeats 800000 in
theorem clone_any (l:List UInt8) (A:Option Addr) (m c:Nat) (ok:Nat→Prop) (w:World) (hm:l.length=m) (hml:m≤2000000) (hr:In .u8 w ok (.slice A m c) (bI l)) :
  Calls Tryz.prog 53 #[.slice A m c] w (Fresh .u8 5 (bI l) w):=by
 obtain ⟨i0,hi0,hz0,hz1,hz2⟩:=info_parts byte_info
 have HM:=hJ hm
 have hnil:=fun W:World=>Lib.run_eql_slice_nil (P:=Tryz.prog) W 22 5 A m c 0 0 Tryz.underlying22
 have aA:=hJ (show 0+m≤maxLen by unfold maxLen; omega)
 have aB:=hJ (show (0+m)*1≤140737488355328 by omega)
 clear hm
 cases A with
 | none =>
  have hl:bI l=[]∧m=0∧c=0:=by
   rcases hr with ⟨h,h0⟩ | ⟨b,off,c',h1,_⟩
   ·injection h with _ h1 h2; exact ⟨h0,h1,h2⟩
   injection h1 with h1; cases h1
  obtain ⟨hl,rfl,rfl⟩:=hl
  have HL:=hJ hl
  clear hl hr
  go_enter Tryz.func53,Tryz.ntmps53
  go_wp2
  go_ret
  refine ⟨none,0,by rw [HL.out]; rfl,by rw [HL.out]; exact World.ownsRow_nil _ _ _ _,Below.refl _ _⟩
 | some ad =>
  have hown0:=World.ownsRow_made (base:=w.heap.size) (e:=5) (size:=1) w #[] 0 (Nat.le_refl _) (by decide) rfl
  have HR:=hJ (hr.new (w':=w.alloc (.cells #[] 5)) ((Below.refl _ w).alloc (Nat.le_refl _) _))
  clear hr
  go_enter Tryz.func53,Tryz.ntmps53
  go_wp2_with (at_builtin; refine wpList_append_in rfl _ _ 22 rfl w.heap.size 5 i0 (.int .u8 0) 1 Tryz.underlying22 hi0 hz0 hz1 hz2 rfl _ _ _ rfl hown0 .u8 _ _ _ _ _ rfl HR.out aA.out aB.out (alloc_ge (Nat.le_refl _)) ?_; intro v' w2 hown' hgrow; obtain ⟨a3,c3,rfl⟩:=own_form hown')
  go_ret
  have hlen:(bI l).length=m:=by rw [bI_len]; exact HM.out
  refine ⟨a3,c3,by rw [hlen]; rfl,?_,?_⟩
  ·rw [hlen]
   simpa using hown'
  ·exact ((Below.refl _ w).alloc (Nat.le_refl _) _).grown hgrow (by simp) (own_block_ge hown0)
set_option maxHeartbeats 800000 in
theorem wdone_any (g:Nat) (bs:List UInt8) (w:World) (h:Wr w g bs) (hl:bs.length≤2000000) :
  Calls Tryz.prog 14 #[.pointer (some ⟨g,0,none⟩)] w (Fresh .u8 5 (bI bs) w):=by
 obtain ⟨a2,c2,hbx2,hown2⟩:=h
 have hc:=hbx2.cell
 have HI:=hJ (In.own hown2)
 go_enter Tryz.func14,Tryz.ntmps14
 go_wp2_with fail
 refine (clone_any bs _ _ _ _ w rfl hl HI.out).mono ?_
 rintro e w' ⟨a,c,rfl,hown',hb⟩
 go_wp2
 go_ret
 exact ⟨a,c,rfl,hown',hb⟩
end Go.Proofs.YtbgfmegepekapaaGreat
