/- What else is needed of the texts below. Conditions: as each statement has them. -/
import Derived.Below
import Derived.Deep.Draws
import Derived.Deep.RegionHeld3
import Derived.IntWalk
import Derived.Laws.AppendOwnNone
import Derived.Laws.BitsAllLaws
import Derived.Laws.BytesString
import Derived.Laws.Cells
import Derived.Laws.NewBlocks
import Derived.Laws.OwnMore
import Derived.Laws.Rows
import Derived.Laws.Slices
import Derived.Lib.AppendStr
import Derived.Lib.ConvBytes
import Derived.Lib.Hide
import Derived.Maps.AppendAt
import Derived.OwnWalk
import Derived.WideShapes
import Derived.Test.YtbgfmegepekapaaGreatB2
import Derived.Test.YtbgfmegepekapaaGreatB3
import Derived.Test.YtbgfmegepekapaaGreatB5

namespace Go.Proofs.YtbgfmegepekapaaGreat
open Go.RowKit
theorem bI_length (l:List UInt8):(bI l).length=l.length:=by simp [bI]
theorem bI_get {l:List UInt8} {j:Nat} (h:j < l.length):(bI l).getD j 0=((l[j]).toNat:Int):=by
  simp [bI,h]
end Go.Proofs.YtbgfmegepekapaaGreat

namespace Go.Proofs.YtbgfmegepekapaaGreat
open Go.RowKit

/-- The varint of a number. -/
def uv (n:Nat):List UInt8:=if n < 128 then [UInt8.ofNat n] else UInt8.ofNat (n % 128+128) :: uv (n / 128)
termination_by n
decreasing_by omega
theorem uv_lt {n:Nat} (h:n < 128):uv n=[UInt8.ofNat n]:=by rw [uv,if_pos h]
theorem uv_ge {n:Nat} (h:128≤n):uv n=UInt8.ofNat (n % 128+128) :: uv (n / 128):=by rw [uv,if_neg (by omega)]
theorem u8nat (n:Nat) (h:n < 256):(UInt8.ofNat n).toNat=n:=by rw [UInt8.toNat_ofNat']; omega

/-- What a reader holds: the bytes that are left, and the error (0: none, 2: form, 3: more). -/
structure St where
  l:List UInt8
  e:Nat
deriving DecidableEq

def scan:Nat→Nat→List UInt8→Nat × St
  | _,_,[]=>(0,⟨[],3⟩)
  | i,acc,c :: r=>if (i=9∧1 < c.toNat)∨(0 < i∧c.toNat=0) then (0,⟨r,2⟩) else if c.toNat < 128 then (acc+c.toNat*128 ^ i,⟨r,0⟩) else scan (i+1) (acc+c.toNat % 128*128 ^ i) r
def uintS (s:St):Nat × St:=if s.e≠0 then (0,s) else scan 0 0 s.l
def lenS (s:St):Nat × St:=if (uintS s).2.l.length < (uintS s).1 then (0,⟨(uintS s).2.l,3⟩) else uintS s
def partS (s:St):List UInt8 × St:=if (lenS s).2.e≠0 then ([],(lenS s).2) else ((lenS s).2.l.take (lenS s).1,⟨(lenS s).2.l.drop (lenS s).1,0⟩)
theorem uintS_err {s:St} (h:s.e≠0):uintS s=(0,s):=by rw [uintS,if_pos h]
theorem pow128 (i:Nat):0 < 128 ^ i:=Nat.pow_pos (by omega)
theorem scan_rt (r:List UInt8):∀ (n i acc:Nat),(0 < i→0 < n)→n*128 ^ i < 18446744073709551616→scan i acc (uv n ++ r)=(acc+n*128 ^ i,⟨r,0⟩):=by
  intro n
  induction n using Nat.strongRecOn with
  | ind n ih =>
    intro i acc hi hn
    have hp:=pow128 i
    by_cases h:n < 128
    · rw [uv_lt h,List.cons_append,List.nil_append,scan,u8nat n (by omega),if_neg,if_pos h]
      rintro (⟨rfl,h1⟩ | ⟨h1,h2⟩)
      · have:2*128 ^ 9≤n*128 ^ 9:=Nat.mul_le_mul_right _ h1
        have e:(128:Nat) ^ 9=9223372036854775808:=by decide
        omega
      · have:=hi h1; omega
    · have hc:(UInt8.ofNat (n % 128+128)).toNat=n % 128+128:=u8nat _ (by omega)
      have e:n % 128*128 ^ i+n / 128*128 ^ (i+1)=n*128 ^ i:=by
        rw [Nat.pow_succ,Nat.mul_comm (128 ^ i) 128,←Nat.mul_assoc,←Nat.add_mul]
        congr 1; omega
      rw [uv_ge (by omega),List.cons_append,scan,hc,if_neg,if_neg (by omega),ih (n / 128) (by omega) (i+1) _ (fun _=>by omega) (by omega)]
      · congr 1
        rw [Nat.add_mod_right,Nat.mod_mod]
        omega
      · rintro (⟨rfl,h1⟩ | ⟨h1,h2⟩)
        · have:128*128 ^ 9≤n*128 ^ 9:=Nat.mul_le_mul_right _ (by omega)
          have e:(128:Nat) ^ 9=9223372036854775808:=by decide
          omega
        · omega
theorem scan_one:∀ (l:List UInt8) (i acc v:Nat) (r:List UInt8),i≤9→scan i acc l=(v,⟨r,0⟩)→∃ n,l=uv n ++ r∧v=acc+n*128 ^ i∧(0 < i→0 < n)∧n*128 ^ i < 18446744073709551616
  | [],i,acc,v,r,_,h=>by simp [scan] at h
  | c :: l,i,acc,v,r,hi,h=>by
    rw [scan] at h
    split at h
    · simp at h
    · rename_i hn
      have hc:=c.toNat_lt
      have hpl:128 ^ i≤128 ^ 9:=Nat.pow_le_pow_right (by omega) hi
      have e9:(128:Nat) ^ 9=9223372036854775808:=by decide
      split at h
      · rename_i hlt
        simp only [Prod.mk.injEq,St.mk.injEq,and_true] at h
        obtain ⟨h1,h2⟩:=h
        subst h2
        refine ⟨c.toNat,by rw [uv_lt hlt]; simp,h1.symm,fun h0=>by omega,?_⟩
        by_cases e:i=9
        · subst e
          have:c.toNat*128 ^ 9≤1*128 ^ 9:=Nat.mul_le_mul_right _ (by omega)
          omega
        · have h8:128 ^ i≤128 ^ 8:=Nat.pow_le_pow_right (by omega) (by omega)
          have e8:(128:Nat) ^ 8=72057594037927936:=by decide
          have:c.toNat*128 ^ i≤127*128 ^ 8:=Nat.mul_le_mul (by omega) h8
          omega
      · rename_i hge
        have hi9:i≠9:=fun e=>by subst e; exact hn (.inl ⟨rfl,by omega⟩)
        obtain ⟨n,h1,h2,h3,h4⟩:=scan_one l (i+1) _ v r (by omega) h
        have e:c.toNat % 128*128 ^ i+n*128 ^ (i+1)=(c.toNat % 128+128*n)*128 ^ i:=by
          rw [Nat.pow_succ,Nat.mul_comm (128 ^ i) 128,←Nat.mul_assoc,←Nat.add_mul,Nat.mul_comm n 128]
        have hn0:=h3 (by omega)
        refine ⟨c.toNat % 128+128*n,?_,by omega,fun _=>by omega,?_⟩
        · rw [uv_ge (by omega),h1,List.cons_append]
          congr 1
          · rw [show (c.toNat % 128+128*n) % 128+128=c.toNat by omega]; simp
          · rw [show (c.toNat % 128+128*n) / 128=n by omega]
        · rw [←e]
          -- both parts are multiples of 128^i, the first below one step of the second
          have hq:n*128 ^ (i+1)+128 ^ (i+1)≤18446744073709551616:=by
            have hp:=pow128 (i+1)
            have hd:128 ^ (i+1)∣18446744073709551616∨i+1=10:=by
              left
              have:i+1≤9:=by omega
              have e:(18446744073709551616:Nat)=128 ^ (i+1)*(2*128 ^ (9 - (i+1))):=by
                rw [Nat.mul_left_comm,←Nat.pow_add,show i+1+(9 - (i+1))=9 by omega]
              exact ⟨_,e⟩
            rcases hd with ⟨q,hq⟩ | hd
            · rw [hq] at h4 ⊢
              rw [Nat.mul_comm n] at h4 ⊢
              have:=Nat.lt_of_mul_lt_mul_left h4
              rw [←Nat.mul_succ]
              exact Nat.mul_le_mul_left _ this
            · omega
          have:c.toNat % 128*128 ^ i < 128 ^ (i+1):=by
            rw [Nat.pow_succ,Nat.mul_comm (128 ^ i)]
            exact Nat.mul_lt_mul_of_pos_right (by omega) (pow128 i)
          omega
theorem uv_len:∀ (n:Nat) (k:Nat),n < 128 ^ (k+1)→(uv n).length≤k+1:=by
  intro n
  induction n using Nat.strongRecOn with
  | ind n ih =>
    intro k hk
    by_cases h:n < 128
    · rw [uv_lt h]; simp
    · rw [uv_ge (by omega)]
      match k with
      | 0=>simp at hk; omega
      | k+1 =>
        have:=ih (n / 128) (by omega) k (by rw [Nat.pow_succ] at hk; omega)
        simp; omega
theorem uv_len10 {n:Nat} (h:n < 18446744073709551616):(uv n).length≤10:=uv_len n 9 (Nat.lt_trans h (by decide))
theorem scan_zero:∀ (l:List UInt8) (i acc v:Nat) (s:St),scan i acc l=(v,s)→s.e≠0→v=0:=by
  intro l
  induction l with
  | nil=>intro i acc v s h _; simp [scan] at h; exact h.1.symm
  | cons c r ih =>
    intro i acc v s h he
    rw [scan] at h
    split at h
    · simp at h; exact h.1.symm
    · split at h
      · simp at h; rw [←h.2] at he; simp at he
      · exact ih _ _ _ _ h he
end Go.Proofs.YtbgfmegepekapaaGreat

namespace Go.Proofs.YtbgfmegepekapaaGreat
open Go.RowKit

theorem uintS_rt {n:Nat} (h:n < 18446744073709551616) (r:List UInt8):uintS ⟨uv n ++ r,0⟩=(n,⟨r,0⟩):=by
  rw [uintS,if_neg (by simp)]
  show scan 0 0 (uv n ++ r)=_
  rw [scan_rt r n 0 0 (fun h=>by omega) (by simpa using h)]
  simp
theorem uintS_one {s:St} {v:Nat} {r:List UInt8} (h:uintS s=(v,⟨r,0⟩)):s.e=0∧s.l=uv v ++ r∧v < 18446744073709551616:=by
  by_cases he:s.e=0
  · rw [uintS,if_neg (by simp [he])] at h
    obtain ⟨n,h1,h2,_,h4⟩:=scan_one _ _ _ _ _ (by omega) h
    simp at h2 h4
    subst h2
    exact ⟨he,h1,h4⟩
  · rw [uintS_err he] at h
    simp only [Prod.mk.injEq] at h
    rw [h.2] at he
    exact absurd rfl he
theorem uintS_zero {s:St} (h:(uintS s).2.e≠0):(uintS s).1=0:=by
  by_cases he:s.e=0
  · rw [uintS,if_neg (by simp [he])] at h ⊢
    exact scan_zero _ _ _ _ _ rfl h
  · rw [uintS_err he]
theorem uintS_lt (s:St):(uintS s).1 < 18446744073709551616:=by
  rcases h:uintS s with ⟨v,r,e⟩
  by_cases he:e=0
  · subst he; exact (uintS_one h).2.2
  · have:=uintS_zero (s:=s) (by rw [h]; exact he)
    rw [h] at this
    simp only at this ⊢
    omega
theorem lenS_e (s:St):(lenS s).2.e≠0→(lenS s).1=0:=by
  unfold lenS
  split
  · intro; rfl
  · exact uintS_zero
theorem lenS_le (s:St):(lenS s).1≤(lenS s).2.l.length:=by
  unfold lenS
  split
  · exact Nat.zero_le _
  · omega
theorem lenS_rt {n:Nat} (h:n < 18446744073709551616) (r:List UInt8) (hr:n≤r.length):lenS ⟨uv n ++ r,0⟩=(n,⟨r,0⟩):=by
  rw [lenS,uintS_rt h,if_neg (by simp; omega)]
theorem lenS_one {s:St} {v:Nat} {r:List UInt8} (h:lenS s=(v,⟨r,0⟩)):s.e=0∧s.l=uv v ++ r∧v < 18446744073709551616∧v≤r.length:=by
  have hle:=lenS_le s
  rw [h] at hle
  unfold lenS at h
  split at h
  · simp at h
  · obtain ⟨h1,h2,h3⟩:=uintS_one h
    exact ⟨h1,h2,h3,hle⟩
theorem partS_rt (b r:List UInt8) (h:b.length < 18446744073709551616):partS ⟨uv b.length ++ b ++ r,0⟩=(b,⟨r,0⟩):=by
  rw [partS,List.append_assoc,lenS_rt h _ (by simp),if_neg (by simp)]
  simp
theorem partS_one {s:St} {b r:List UInt8} (h:partS s=(b,⟨r,0⟩)):s.e=0∧s.l=uv b.length ++ b ++ r:=by
  unfold partS at h
  split at h
  · rename_i he; simp only [Prod.mk.injEq] at h; rw [h.2] at he; exact absurd rfl he
  · rename_i he
    rcases hl:lenS s with ⟨v,l,e⟩
    rw [hl] at h he
    simp only [ne_eq,Decidable.not_not] at he
    subst he
    obtain ⟨h1,h2,h3,h4⟩:=lenS_one hl
    simp only [Prod.mk.injEq,St.mk.injEq,and_true] at h
    obtain ⟨h5,h6⟩:=h
    refine ⟨h1,?_⟩
    rw [←h5,←h6,List.length_take,Nat.min_eq_left h4,List.append_assoc,List.take_append_drop]
    exact h2
end Go.Proofs.YtbgfmegepekapaaGreat

namespace Go.Proofs.YtbgfmegepekapaaGreat
open Go.RowKit

section
variable {k:IntKind} {w w':World} {B B':Nat} {sv:Value} {xs:List Int}
theorem Rd.form (h:Rd k w B sv xs):∃ a c,sv=.slice a xs.length c:=by
  rcases h with ⟨rfl,rfl⟩ | ⟨b,off,c,rfl,_⟩
  · exact ⟨none,0,rfl⟩
  · exact ⟨_,c,rfl⟩
theorem own_form {base e n:Nat} {ys:List Value} {size:Nat} (h:w.ownsRow base e size sv n ys):∃ a c,sv=.slice a n c:=by
  rcases h.2 with ⟨rfl,rfl⟩ | ⟨g,cap,cur,rfl,_⟩
  · exact ⟨none,0,rfl⟩
  · exact ⟨_,_,rfl⟩
/-- A row of the call's own from block base on lies as it lay where all below base + is left alone. -/
theorem own_below {base e n size:Nat} {ys:List Value} (h:w.ownsRow base e size sv n ys) (hb:Below w.heap.size w w'):w'.ownsRow base e size sv n ys:=by
  refine ⟨h.1,?_⟩
  rcases h.2 with h0 | ⟨g,cap,cur,h1,h2,h3,h4⟩
  · exact .inl h0
  · exact .inr ⟨g,cap,cur,h1,h2,(hb.block g (Array.getElem?_eq_some_iff.1 h3).1).trans h3,h4⟩
theorem own_block_ge {base e n size:Nat} {ys:List Value} (h:w.ownsRow base e size sv n ys):∀ g,sv.ownBlock=some g→base≤g:=by
  rcases h.2 with ⟨rfl,_⟩ | ⟨g,cap,cur,rfl,h2,_⟩
  · intro g hg; simp [Value.ownBlock] at hg
  · intro g' hg; simp [Value.ownBlock] at hg; omega
end
/-- A string made into bytes: a new slice that reads as the string's bytes; what lay lies as it lay. -/
theorem conv_bytes {P:Program} (w:World) (src dst e:TypeId) (s:ByteArray) (hs:P.underlying src=some .string) (hd:P.underlying dst=some (.slice e)) (he:P.underlying e=some (.int .u8)) :
    ∃ W1 c,(convert src dst (.string s)).run P w=.ok (.slice (some ⟨w.heap.size,0,none⟩) s.size c) W1∧Below w.heap.size w W1∧Rd .u8 W1 W1.heap.size (.slice (some ⟨w.heap.size,0,none⟩) s.size c) (bI s.data.toList):=by
  refine ⟨Lib.bytesWorld w e s,grownCap w s.size 0 e,Lib.run_convert_string_bytes w src dst e s hs hd he,⟨?_,?_,?_,?_,?_⟩,.inr ⟨w.heap.size,0,grownCap w s.size 0 e,?_,?_,?_,?_⟩⟩
  · simp [Lib.bytesWorld,World.freeze,World.alloc,World.drew, -World.alloc_eq, -World.drew_eq]
  · simp [Lib.bytesWorld,World.freeze,World.alloc,World.drew, -World.alloc_eq, -World.drew_eq]
  · simp [Lib.bytesWorld,World.freeze,World.alloc,World.drew, -World.alloc_eq, -World.drew_eq]
  · rw [Lib.bytesWorld_size]; omega
  · exact fun k hk=>Lib.bytesWorld_at_old w e s k hk
  · rw [bI_length]; simp
  · rw [bI_length]
    simpa using grownCap_ge w s.size 0 e
  · rw [Lib.bytesWorld_size]; omega
  · intro j v hj
    have hlt:j < s.size:=by have:=(List.getElem?_eq_some_iff.1 hj).1; rw [bI_length] at this; simpa using this
    rw [Nat.zero_add,Lib.bytesWorld_cell w e s j hlt]
    have hlt':j < s.data.toList.length:=by simpa using hlt
    have h2:=bI_get hlt'
    rw [List.getD_eq_getElem?_getD,hj] at h2
    rw [List.getD_eq_getElem?_getD,List.getElem?_eq_getElem hlt']
    simpa using h2.symm
end Go.Proofs.YtbgfmegepekapaaGreat

namespace Go.Proofs.YtbgfmegepekapaaGreat
open Go.RowKit

section
variable {t t':Nat→Prop} {w w' w'':World}
end

section
variable {k:IntKind} {w w':World} {ok ok' t:Nat→Prop} {sv:Value} {xs:List Int} {B:Nat}
theorem In.form (h:In k w ok sv xs):∃ a c,sv=.slice a xs.length c:=h.rd.form
/-- s[j:] and s[:j] of such a slice, as one equation each. -/
theorem In.from_ {P:Program} {ty e:TypeId} (ht:P.underlying ty=some (.slice e)) (hs:∀ W,(sizeOf e).run P W=.ok 1 W) {a:Option Addr} {n c:Nat} (h:In k w ok (.slice a n c) xs) (j:Nat) (hj:j≤n) (z:Int) (hz:z=(j:Int)) :
    ∃ a' c',(∀ W,(Instr.slice ty (.slice a n c) (some (.int .i64 z)) none none).run P W=.ok (.slice a' (n - j) c') W)∧In k w ok (.slice a' (n - j) c') (xs.drop j):=by
  have he:P.elem ty=e:=by simp [Program.elem,ht]
  obtain ⟨hn,hc⟩:=h.len
  subst hz
  refine ⟨if c=j then a else a.map (·.add (j*1)),c - j,fun W=>?_,?_⟩
  · rw [run_slice_l (ht:=by rw [ht,he]) (h0:=by omega) (h1:=by omega),he,hs W]
    simp only [Result.andThen,sliced,Int.toNat_natCast]
  · rcases h with ⟨h,rfl⟩ | ⟨b,off,c',h1,h2,h3,h4,h5⟩
    · injection h with h1 h2 h3
      subst h1 h2 h3
      obtain rfl:j=0:=by omega
      exact .inl ⟨by simp,by simp⟩
    · injection h1 with h1 h6 h7
      subst h1 h7
      by_cases e:c=j
      · rw [if_pos e]
        have:xs.drop j=[]:=List.drop_of_length_le (by omega)
        rw [this]
        exact .inr ⟨b,off,c - j,by rw [show n - j=0 by omega]; rfl,Nat.zero_le _,h3,h4,fun i v hi=>by simp at hi⟩
      · rw [if_neg e]
        refine .inr ⟨b,off+j,c - j,?_,?_,h3,h4,fun i v hi=>?_⟩
        · rw [List.length_drop,h6,Nat.mul_one,Option.map_some,Go.WideShapes.add_plain]
        · rw [List.length_drop]; omega
        · rw [List.getElem?_drop] at hi
          rw [Nat.add_assoc]
          exact h5 _ v hi
theorem In.to_ {P:Program} {ty e:TypeId} (ht:P.underlying ty=some (.slice e)) (hs:∀ W,(sizeOf e).run P W=.ok 1 W) {a:Option Addr} {n c:Nat} (h:In k w ok (.slice a n c) xs) (j:Nat) (hj:j≤n) :
    ∃ a',(∀ W,(Instr.slice ty (.slice a n c) none (some (.int .i64 (j:Int))) none).run P W=.ok (.slice a' j c) W)∧In k w ok (.slice a' j c) (xs.take j):=by
  have he:P.elem ty=e:=by simp [Program.elem,ht]
  obtain ⟨hn,hc⟩:=h.len
  refine ⟨if c=0 then a else a.map (·.add (0*1)),fun W=>?_,?_⟩
  · rw [run_slice_h (ht:=by rw [ht,he]) (h0:=by omega) (h2:=by omega),he,hs W]
    simp only [Result.andThen,sliced,Int.toNat_natCast,Nat.sub_zero]
  · rcases h with ⟨h,rfl⟩ | ⟨b,off,c',h1,h2,h3,h4,h5⟩
    · injection h with h1 h2 h3
      subst h1 h2 h3
      obtain rfl:j=0:=by omega
      exact .inl ⟨by simp,by simp⟩
    · injection h1 with h1 h6 h7
      subst h1 h7
      have hl:(xs.take j).length=j:=by rw [List.length_take]; omega
      refine .inr ⟨b,off,c,?_,by omega,h3,h4,fun i v hi=>?_⟩
      · rw [hl]
        split
        · rfl
        · rw [Nat.zero_mul,Option.map_some,Go.WideShapes.add_plain,Nat.add_zero]
      · rw [List.getElem?_take] at hi
        split at hi
        · exact h5 i v hi
        · cases hi
end

theorem alloc_ge {w:World} {o:Obj} {n:Nat} (h:n≤w.heap.size):n≤(w.alloc o).heap.size:=by simp; omega
theorem one_cells (k:IntKind) (x:Int):∀ u ∈ [Value.int k x],u.oneCell'=true:=by
  intro u hu
  simp only [List.mem_singleton] at hu
  subst hu
  rfl
/-- append onto a row of the call's own, the source nil or not. -/
theorem wpList_append_in {P:Program} {w:World} {ops:Array Oper} {rest:List Oper} {o:Oper} {a:Act} {Q:Exit→Act→World→Prop} (hgd:o.guard=none) (s x:Operand) (t:TypeId)
    (ho:o.op=.call { callee:=.builtin .append,args:=#[s,x],argTypes:=#[t,t] })
    (base:Nat) (e:TypeId) (i:TypeInfo) (z:Value) (bytes:Nat) (ht:P.underlying t=some (.slice e)) (hi:P.info? e=some i) (hz:i.zero=some z)
    (hsize:i.size=1) (hby:i.bytes=bytes) (hzs:z.cells.size=1)
    (v:Value) (n:Nat) (xs:List Value) (hs:a.eval s=v) (hown:w.ownsRow base e 1 v n xs)
    (k:IntKind) (ok:Nat→Prop) (A:Option Addr) (m c:Nat) (news:List Int) (hx:a.eval x=.slice A m c) (hr:In k w ok (.slice A m c) news)
    (h63:n+m≤maxLen) (hbytes:(n+m)*bytes≤140737488355328) (hbase:base≤w.heap.size)
    (h:∀ v' w',w'.ownsRow base e 1 v' (n+m) (xs ++ vs k news)→w.grownBy w' v.ownBlock→wpList P ops Q rest (a.put o.dst v') w'):wpList P ops Q (o :: rest) a w:=by
  obtain ⟨hm,_⟩:=hr.len
  rcases hr with ⟨h0,rfl⟩ | ⟨b,off,c',h1,_,_,_,h5⟩
  · injection h0 with h1 h2 h3
    subst h1 h2 h3
    refine wpList_append_own_none hgd s x t ho base e i 1 ht hi v n xs hs hown hx (h v w ?_ ⟨rfl,rfl,rfl,Nat.le_refl _,fun _ _ _=>rfl⟩)
    simpa [vs] using hown
  · injection h1 with h1 h6 h7
    subst h1
    refine wpList_append_own w hgd s x t ho base e i z 1 bytes ht hi hz hsize hby hzs (by decide) v n xs hs hown ⟨b,off,none⟩ m c (vs k news) hx (by rw [vs_length]; omega) (fun j u hu=>?_) (vs_one k news) h63 hbytes hbase (fun v' w' g1 g2 _=>h v' w' g1 g2)
    simp only [vs,List.getElem?_map,Option.map_eq_some_iff] at hu
    obtain ⟨v,hv,rfl⟩:=hu
    rw [Go.WideShapes.add_plain]
    exact h5 j v hv
end Go.Proofs.YtbgfmegepekapaaGreat

namespace Go.Proofs.YtbgfmegepekapaaGreat

section
variable {B:Nat}
end
end Go.Proofs.YtbgfmegepekapaaGreat

namespace Go.Proofs.YtbgfmegepekapaaGreat

theorem dig8_of {c:UInt8} (h1:48≤c.toNat) (h2:c.toNat≤57):dig8 (c.toNat - 48)=c:=by
  rw [dig8,show 48+(c.toNat - 48)=c.toNat by omega]
  simp
theorem dec_ne (n:Nat):dec n≠[]:=by
  by_cases h:n < 10
  · rw [dec_lt h]; simp
  · rw [dec_ge (by omega)]; simp
/-- No zero in front but of zero itself. -/
theorem dec_head (n:Nat) (h:0 < n):(dec n).getD 0 0≠48:=by
  induction n using Nat.strongRecOn with
  | _ n ih =>
    by_cases h10:n < 10
    · rw [dec_lt h10]
      intro e
      have:=congrArg UInt8.toNat e
      rw [show [dig8 n].getD 0 0=dig8 n from rfl,dig8_nat h10] at this
      simp at this
      omega
    · have:=ih (n / 10) (by omega) (by omega)
      rw [dec_ge (by omega)]
      rcases hd:dec (n / 10) with _ | ⟨c,r⟩
      · exact absurd hd (dec_ne _)
      · rw [hd] at this
        simpa using this
/-- Digits without a zero in front are the text of their value. -/
theorem dec_dval {l:List UInt8} (h:IsDig l) (hne:l≠[]) (h0:l.length=1∨l.getD 0 0≠48):dec (dval l)=l:=by
  induction l using snoc_ind with
  | nil=>exact absurd rfl hne
  | snoc l c ih =>
    obtain ⟨h1,h2⟩:=isDig_append.1 h
    have hc:=h2 c (List.mem_singleton.2 rfl)
    rw [dval_snoc]
    rcases l with _ | ⟨x,r⟩
    · rw [dval_nil,dec_lt (by omega),Nat.mul_zero,Nat.zero_add,dig8_of hc.1 hc.2]
      rfl
    · have hx:(x :: r).getD 0 0≠48:=by
        rcases h0 with h0 | h0
        · simp at h0
        · simpa using h0
      have hi:=ih h1 (by simp) (.inr hx)
      have hpos:0 < dval (x :: r):=by
        rcases Nat.eq_zero_or_pos (dval (x :: r)) with e | e
        · rw [e,dec_lt (by omega)] at hi
          rw [←hi] at hx
          exact absurd rfl hx
        · exact e
      rw [dec_ge (by omega),show (10*dval (x :: r)+(c.toNat - 48)) / 10=dval (x :: r) by omega,show (10*dval (x :: r)+(c.toNat - 48)) % 10=c.toNat - 48 by omega,hi,dig8_of hc.1 hc.2]
/-- The text of an integer. -/
def decI (x:Int):List UInt8:=if x < 0 then 45 :: dec x.natAbs else dec x.natAbs
theorem decI_inj {x y:Int} (h:decI x=decI y):x=y:=by
  have hm:∀ n,(dec n).getD 0 0≠45:=by
    intro n e
    rcases hd:dec n with _ | ⟨c,r⟩
    · exact absurd hd (dec_ne n)
    · have:=isDig_dec n c (by rw [hd]; simp)
      rw [hd] at e
      simp only [List.getD_cons_zero] at e
      subst e
      exact absurd this.1 (by decide)
  have hn:∀ a b,dec a=dec b→a=b:=fun a b e=>by rw [←dval_dec a,e,dval_dec]
  unfold decI at h
  split at h <;> split at h
  · have:=hn _ _ (List.cons.inj h).2; omega
  · exact absurd (by rw [←h]; rfl) (hm y.natAbs)
  · exact absurd (by rw [h]; rfl) (hm x.natAbs)
  · have:=hn _ _ h; omega
end Go.Proofs.YtbgfmegepekapaaGreat

namespace Go.Proofs.YtbgfmegepekapaaGreat

end Go.Proofs.YtbgfmegepekapaaGreat

namespace Go.Proofs.YtbgfmegepekapaaGreat
open Go.RowKit

theorem nI_drop (l:List Nat) (i:Nat):nI (l.drop i)=(nI l).drop i:=by simp [nI]
section
variable {k:IntKind} {ok ok':Nat→Prop} {w w':World} {v:Value} {l:List Nat} {a:Option Addr} {n c:Nat}
theorem LO.form (h:LO k ok w v l):∃ a c,v=.slice a l.length c:=by
  have:=In.form h
  rwa [nI_len] at this
/-- s[:j] -/
theorem LO.to_ {P:Program} {ty e:TypeId} (ht:P.underlying ty=some (.slice e)) (hs:∀ W,(sizeOf e).run P W=.ok 1 W) (h:LO k ok w (.slice a n c) l) (j:Nat) (hj:j≤n) (z:Int) (hz:z=(j:Int)) :
    ∃ a',(∀ W,(Instr.slice ty (.slice a n c) none (some (.int .i64 z)) none).run P W=.ok (.slice a' j c) W)∧LO k ok w (.slice a' j c) (l.take j):=by
  subst hz
  obtain ⟨a',h1,h2⟩:=In.to_ ht hs h j hj
  exact ⟨a',h1,by unfold LO; rw [nI_take]; exact h2⟩
/-- s[j:] -/
theorem LO.from_ {P:Program} {ty e:TypeId} (ht:P.underlying ty=some (.slice e)) (hs:∀ W,(sizeOf e).run P W=.ok 1 W) (h:LO k ok w (.slice a n c) l) (j:Nat) (hj:j≤n) (z:Int) (hz:z=(j:Int)) :
    ∃ a' c',(∀ W,(Instr.slice ty (.slice a n c) (some (.int .i64 z)) none none).run P W=.ok (.slice a' (n - j) c') W)∧LO k ok w (.slice a' (n - j) c') (l.drop j):=by
  obtain ⟨a',c',h1,h2⟩:=In.from_ ht hs h j hj z hz
  exact ⟨a',c',h1,by unfold LO; rw [nI_drop]; exact h2⟩
end
section
variable {k:IntKind} {w w':World} {g:Nat} {t:TypeId} {l:List Nat}
end
end Go.Proofs.YtbgfmegepekapaaGreat

namespace Go.Proofs.YtbgfmegepekapaaGreat

section
variable {B:Nat} {la lb o:List Nat} {i k c:Nat}
end
end Go.Proofs.YtbgfmegepekapaaGreat

namespace Go.Proofs.YtbgfmegepekapaaGreat

section
variable {B:Nat}
end
end Go.Proofs.YtbgfmegepekapaaGreat

namespace Go.Proofs.YtbgfmegepekapaaGreat

section
variable {B x b m n nq j:Nat} {r oq:List Nat}
end
end Go.Proofs.YtbgfmegepekapaaGreat

namespace Go.Proofs.YtbgfmegepekapaaGreat
end Go.Proofs.YtbgfmegepekapaaGreat



namespace Go.Proofs.YtbgfmegepekapaaGreat
open Go.RowKit
attribute [local go_sem ↓] Go.wp_at_zero Go.wp_at_succ

attribute [local go_sem] str_get
theorem by_at {l:List UInt8} {j:Nat} (h:j < l.length):l.getD j 0=l[j]'h:=by
  rw [List.getD_eq_getElem?_getD,List.getElem?_eq_getElem h]
  rfl
theorem isDecB_true {l:List UInt8} (h0:0 < l.length) (h1:¬ ((l.getD 0 0).toNat=48∧1 < l.length)) (h:IsDig l):isDecB l=true:=by
  have e0:l.isEmpty=false:=by cases l <;> simp_all
  have e1:(l.getD 0 0 == 48 && decide (1 < l.length))=false:=by
    rw [Bool.and_eq_false_iff]
    by_cases g:(l.getD 0 0).toNat=48
    · exact .inr (by simpa using fun x=>h1 ⟨g,x⟩)
    · refine .inl ?_
      rw [beq_eq_false_iff_ne]
      intro e
      rw [e] at g
      exact g rfl
  have e2:l.all (fun c=>decide (48≤c.toNat) && decide (c.toNat≤57))=true:=by
    rw [List.all_eq_true]
    intro c hc
    have:=h c hc
    simp [this.1,this.2]
  rw [isDecB,e0,e1,e2]
  rfl
theorem isDecB_zero {l:List UInt8} (h:(l.getD 0 0).toNat=48) (h1:1 < l.length):isDecB l=false:=by
  have e1:l.getD 0 0=48:=UInt8.toNat_inj.1 h
  rw [isDecB,e1]
  simp [h1]
theorem isDecB_bad {l:List UInt8} {j:Nat} (hj:j < l.length) (h:¬ (48≤(l.getD j 0).toNat∧(l.getD j 0).toNat≤57)):isDecB l=false:=by
  have:l.all (fun c=>decide (48≤c.toNat) && decide (c.toNat≤57))=false:=by
    rw [List.all_eq_false]
    refine ⟨l.getD j 0,?_,by simpa using fun x=>Nat.lt_of_not_le fun y=>h ⟨x,y⟩⟩
    rw [List.getD_eq_getElem?_getD,List.getElem?_eq_getElem hj]
    exact List.getElem_mem hj
  rw [isDecB,this,Bool.and_false]
theorem isDecB_dig {l:List UInt8} (h:isDecB l=true):IsDig l∧l≠[]∧(l.length=1∨l.getD 0 0≠48):=by
  rw [isDecB,Bool.and_eq_true,Bool.and_eq_true,List.all_eq_true] at h
  obtain ⟨⟨h0,h1⟩,h2⟩:=h
  have hne:l≠[]:=by rintro rfl; simp at h0
  refine ⟨fun c hc=>by simpa using h2 c hc,hne,?_⟩
  by_cases g:l.getD 0 0=48
  · rw [g] at h1
    have:¬ 1 < l.length:=by simpa using h1
    have:0 < l.length:=List.length_pos_iff.2 hne
    exact .inl (by omega)
  · exact .inr g
def RetB1 (b:Bool) (w:World) (e:Ending) (w':World):Prop:=e=.returned (.bool b)∧Below w.heap.size w w'
theorem isDig_step {l:List UInt8} {j:Nat} (h:IsDig (l.take j)) (hj:j < l.length) (h1:¬ ((l[j]'hj).toNat:Int) < 48) (h2:¬ 57 < ((l[j]'hj).toNat:Int)):IsDig (l.take (j+1)):=by
  have e:l.take (j+1)=l.take j ++ [l[j]'hj]:=List.take_succ_eq_append_getElem hj
  rw [e,isDig_append]
  refine ⟨h,fun c hc=>?_⟩
  rw [List.mem_singleton.1 hc]
  omega
set_option maxRecDepth 100000 in
set_option maxHeartbeats 1600000 in
theorem isdec_any (l:List UInt8) (w:World) (hn:l.length≤100000) :
    Calls Tryz.prog 136 #[.string ⟨l.toArray⟩] w (RetB1 (isDecB l) w):=by
  rcases Nat.eq_zero_or_pos l.length with hz | h0
  · have h1':=List.eq_nil_of_length_eq_zero hz
    subst h1'
    rw [show isDecB []=false from rfl]
    go_enter Tryz.func136,Tryz.ntmps136
    go_wp2_with fail
    go_ret
    exact ⟨rfl,Below.refl _ _⟩
  · have he:l.isEmpty=false:=by cases l <;> simp_all
    by_cases hb1:(l.getD 0 0).toNat=48∧1 < l.length
    · rw [isDecB_zero hb1.1 hb1.2]
      have hb2:((l[0]'h0).toNat:Int)=48:=by rw [←by_at h0]; omega
      have hb3:(1:Int) < l.length:=by omega
      clear hb1
      go_enter Tryz.func136,Tryz.ntmps136
      go_wp2_with fail
      go_ret
      exact ⟨rfl,Below.refl _ _⟩
    · have aA:=hJ hb1
      have key:(((l[0]'h0).toNat:Int)=48∧¬ (1:Int) < l.length)∨¬ ((l[0]'h0).toNat:Int)=48:=by
        rw [←by_at h0]; omega
      clear hb1
      rcases key with ⟨k1,k2⟩ | k1
      all_goals
        go_enter Tryz.func136,Tryz.ntmps136
        go_wp2_with fail
        go_loop [18] (fun i=>∃ j:Nat,j≤l.length∧i=.int .i64 j∧IsDig (l.take j)) (fun i=>l.length - (intOf i).toNat)
        case atStart=>exact ⟨0,by omega,rfl,by rw [List.take_zero]; intro c hc; simp at hc⟩
        case round =>
          obtain ⟨j,hj,rfl,hd⟩:=hrel
          have HD:=hJ hd
          clear hd
          rcases Nat.lt_or_ge j l.length with hlt | hge
          · by_cases hq1:((l[j]'hlt).toNat:Int) < 48
            · rw [isDecB_bad hlt (by rw [by_at hlt]; omega)]
              go_wp2_with fail
              go_ret
              exact ⟨rfl,Below.refl _ _⟩
            · by_cases hq2:57 < ((l[j]'hlt).toNat:Int)
              · rw [isDecB_bad hlt (by rw [by_at hlt]; omega)]
                go_wp2_with fail
                go_ret
                exact ⟨rfl,Below.refl _ _⟩
              · have HN:=hJ (isDig_step HD.out hlt hq1 hq2)
                go_wp2_with fail
                go_round
                · exact ⟨j+1,by omega,rfl,HN.out⟩
                · simp [intOf]; omega
          · obtain rfl:l.length=j:=by omega
            have HT:=hJ (isDecB_true h0 aA.out (by have:=HD.out; rwa [List.take_length] at this))
            go_wp2_with fail
            go_ret
            exact ⟨by rw [HT.out]; rfl,Below.refl _ _⟩

def RetCut (s:List UInt8) (b:Bool) (w:World) (e:Ending) (w':World):Prop:=e=.returned (.tuple #[.string ⟨s.toArray⟩,.bool b])∧Below w.heap.size w w'
theorem str_cut (l:List UInt8) (i j:Nat):(ByteArray.mk l.toArray).extract i j=⟨((l.drop i).take (j - i)).toArray⟩:=by
  rw [ByteArray.extract_mk]
theorem cut_head (c:UInt8) (r:List UInt8):(((ByteArray.mk (c :: r).toArray).extract 0 1).toList == [45])=cutB (c :: r):=by
  rw [str_cut,ByteArray.toList_mk,cutB]
  simp
set_option maxRecDepth 100000 in
set_option maxHeartbeats 1600000 in
theorem hasprefix_any (l:List UInt8) (w:World) (hn:l.length≤100000) :
    Calls Tryz.prog 169 #[.string ⟨l.toArray⟩,.string ⟨#[45]⟩] w (RetB1 (cutB l) w):=by
  rcases l with _ | ⟨c,r⟩
  · rw [show cutB []=false from rfl]
    go_enter Tryz.func169,Tryz.ntmps169
    go_wp2_with fail
    go_ret
    exact ⟨rfl,Below.refl _ _⟩
  · go_enter Tryz.func169,Tryz.ntmps169
    go_wp2_with fail
    go_ret
    exact ⟨congrArg (fun b=>Ending.returned (.bool b)) (cut_head c r),Below.refl _ _⟩
set_option maxRecDepth 100000 in
set_option maxHeartbeats 1600000 in
theorem cut1_any (l:List UInt8) (w:World) (hn:l.length≤100000) :
    Calls Tryz.prog 155 #[.string ⟨l.toArray⟩,.string ⟨#[45]⟩] w (RetCut (cutL l) (cutB l) w):=by
  obtain ⟨b,hb⟩:∃ b,cutB l=b:=⟨_,rfl⟩
  obtain ⟨S,hS⟩:∃ S,cutL l=S:=⟨_,rfl⟩
  have HB:=hJ hb
  have HS:=hJ hS
  rw [hb,hS]
  clear hb hS
  go_enter Tryz.func155,Tryz.ntmps155
  go_wp2_with fail
  refine (hasprefix_any l w hn).mono ?_
  rw [HB.out]
  rintro e w1 ⟨rfl,hb1⟩
  have aA:=hJ hb1
  clear hb1
  cases b
  · obtain rfl:l=S:=by rw [←HS.out,cutL,HB.out]; rfl
    go_wp2_with fail
    go_ret2
    exact ⟨rfl,aA.out⟩
  · obtain rfl:l.drop 1=S:=by rw [←HS.out,cutL,HB.out]; rfl
    have hlen:(1:Int)≤l.length:=by
      rcases l with _ | ⟨c,r⟩
      · exact absurd HB.out (by decide)
      · rw [List.length_cons]; omega
    go_wp2_with fail
    go_ret2
    refine ⟨?_,aA.out⟩
    have e1:=str_cut l 1 l.length
    rw [List.take_of_length_le (by simp)] at e1
    exact congrArg (fun s=>Ending.returned (.tuple #[.string s,.bool true])) e1
set_option maxRecDepth 100000 in
set_option maxHeartbeats 1600000 in
theorem cut_any (l:List UInt8) (w:World) (hn:l.length≤100000) :
    Calls Tryz.prog 135 #[.string ⟨l.toArray⟩,.string ⟨#[45]⟩] w (RetCut (cutL l) (cutB l) w):=by
  obtain ⟨s,hs⟩:∃ s,cutL l=s:=⟨_,rfl⟩
  have HC:=hJ (cut1_any l w hn)
  rw [hs] at HC ⊢
  go_enter Tryz.func135,Tryz.ntmps135
  go_wp2_with fail
  refine HC.out.mono ?_
  rintro e w1 ⟨rfl,hb1⟩
  have aA:=hJ hb1
  clear hb1
  go_wp2_with fail
  go_ret2
  exact ⟨rfl,aA.out⟩
end Go.Proofs.YtbgfmegepekapaaGreat

namespace Go.Proofs.YtbgfmegepekapaaGreat
open Go.RowKit
attribute [local go_sem ↓] Go.wp_at_zero Go.wp_at_succ
attribute [local go_sem] str_get

theorem GrpInv.bound {D:List UInt8} {i b g:Nat} {o:List Nat} (h:GrpInv D i b g o):0 < b∧b≤100000000∧g < b:=by
  obtain ⟨_,h2,⟨m,hm,rfl⟩,_⟩:=h
  have:=pow_le8 hm
  exact ⟨this.1,this.2.1,h2⟩
theorem GrpInv.flush {D:List UInt8} {i b g c:Nat} {o o':List Nat} (h:GrpInv D i b g o) (hi:i < D.length) (hc:(D[i]'hi).toNat=48+c) (ho:val 4294967296 o'=val 4294967296 o*(b*10)+(g*10+c)):GrpInv D (i+1) 1 0 o':=by
  obtain ⟨h1,_,_,_⟩:=h
  refine ⟨?_,by decide,⟨0,by decide,rfl⟩,fun _=>rfl⟩
  rw [take_dval hi hc,←h1,ho,Nat.mul_add,Nat.mul_comm 10 (_*_),Nat.mul_assoc]
  omega
theorem dig_byte {D:List UInt8} (h:IsDig D) {i:Nat} (hi:i < D.length):∃ c,c≤9∧(D[i]'hi).toNat=48+c:=by
  have:=h (D[i]'hi) (List.getElem_mem hi)
  exact ⟨(D[i]'hi).toNat - 48,by omega,by omega⟩
theorem cutL_len (l:List UInt8):(cutL l).length≤l.length:=by
  unfold cutL
  split
  · rw [List.length_drop]; omega
  · omega

set_option maxRecDepth 100000 in
set_option maxHeartbeats 3200000 in
theorem pparse_any (l:List UInt8) (w:World) (hn:l.length≤100000) :
    Calls Tryz.prog 96 #[.string ⟨l.toArray⟩] w (RetPE (psV l) (psC l) w):=by
  obtain ⟨W,hW⟩:∃ W,w.alloc (.cells #[.bool false,.slice none 0 0] 25)=W:=⟨_,rfl⟩
  have HK:=hJ (show Below w.heap.size w W by rw [←hW]; exact (Below.refl _ w).alloc (Nat.le_refl _) _)
  have HP:=hJ (show P2 25 W w.heap.size (.bool false) (.slice none 0 0) by rw [←hW]; exact P2.lit _ _ _ _)
  by_cases hbig:5000 < l.length
  · rw [show psV l=0 from if_pos hbig,show psC l=4 from if_pos hbig]
    have hb':(5000:Int) < l.length:=by omega
    obtain ⟨q0,q1⟩:=HP.out.cells
    have fq0:=HP.out.frozen 0
    have fq1:=HP.out.frozen 1
    go_enter Tryz.func96,Tryz.ntmps96
    go_wp2_with fail
    exact bodyPost_ret (results_cell1 rfl _ _ _ _ _ _ _ rfl (HP.out.all (.bool false) (.slice none 0 0)) Tryz.underlying25 rfl W_size) rfl (RetPE.stored (PI.zero W) HP.out rfl rfl HK.out (by omega) _ _)
  · have hb':¬ (5000:Int) < l.length:=by omega
    have hSL:=cutL_len l
    have HN:=hJ (show isNum l=(isDecB (cutL l) && !(cutB l && (cutL l == [48]))) from rfl)
    have HO:=hJ (show numOf l=sgn (cutB l) (dval (cutL l)) from rfl)
    have HT:=hJ (cut_any l W hn)
    have HI:=hJ (fun w'=>isdec_any (cutL l) w' (by omega))
    have aJ:=hJ (fun h=>(isDecB_dig (l:=cutL l) h).1)
    obtain ⟨S,hS⟩:∃ S,cutL l=S:=⟨_,rfl⟩
    obtain ⟨mi,hmi⟩:∃ mi,cutB l=mi:=⟨_,rfl⟩
    obtain ⟨z,hz⟩:∃ z,(S == [48])=z:=⟨_,rfl⟩
    obtain ⟨di,hdi⟩:∃ di,isDecB S=di:=⟨_,rfl⟩
    rw [hS,hmi] at HT HO
    rw [hS,hmi,hz,hdi] at HN
    rw [hS] at HI aJ hSL
    rw [hdi] at HI aJ
    clear hS hmi hdi
    by_cases hok:(di && !(mi && z))=true
    · have aK:=hJ (show psV l=outV (numOf l) by rw [psV,if_neg hbig,if_pos (HN.out.trans hok)])
      have aL:=hJ (show psC l=outC (numOf l) by rw [psC,if_neg hbig,if_pos (HN.out.trans hok)])
      have hdi1:di=true:=by cases di <;> simp_all
      subst hdi1
      have hmz:(mi && z)=false:=by cases mi <;> cases z <;> simp_all
      rw [aK.out,aL.out,HO.out]
      have aS:=hJ (aJ.out rfl)
      have hSn:S.length≤5000:=by omega
      clear hok hbig hn hSL aJ aK aL HO HN
      rcases (show mi=false∨(mi=true∧z=false) by cases mi <;> cases z <;> simp_all) with rfl | ⟨rfl,rfl⟩
      all_goals
        clear hmz
        go_enter Tryz.func96,Tryz.ntmps96
        go_wp2_with fail
        refine HT.out.mono ?_
        rintro e w1 ⟨rfl,hb1⟩
        have aG:=hJ hb1
        clear hb1
        go_wp2_with fail
        refine (HI.out w1).mono ?_
        rintro e w2 ⟨rfl,hb2⟩
        have aM:=hJ (aG.out.trans (hb2.mono aG.out.size))
        clear hb2
        go_wp2_with fail
        go_loopw [6,7,8,32] (fun v g b i wr=>∃ (j b' g' k c':Nat) (A':Option Addr) (o:List Nat),j≤S.length∧i=.int .i64 j∧v=.slice A' k c'∧g=.int .u32 g'∧b=.int .u32 b'∧k≤j∧GrpInv S j b' g' o∧Dig 4294967296 o∧LI .u32 wr (.slice A' k c') o∧Below W.heap.size W wr) (fun _ _ _ i _=>S.length - (intOf i).toNat)
        case atStart=>exact ⟨0,1,0,0,0,none,[],by omega,rfl,rfl,rfl,rfl,by omega,GrpInv.start S,dig_nil,LO.nil,aM.out⟩
        case round =>
          obtain ⟨j,b',g',k,c',A',o,hj,rfl,rfl,rfl,rfl,hkj,hinv,hdo,hlo,hbw⟩:=hrel
          have aD:=hJ hinv
          have aH:=hJ hdo
          have aB:=hJ hlo
          have aC:=hJ hbw
          clear hinv hdo hlo hbw
          obtain ⟨hb0,hb9,hgb⟩:=aD.out.bound
          rcases Nat.lt_or_ge j S.length with hlt | hge
          · obtain ⟨d,hd9,hd⟩:=dig_byte aS.out hlt
            have HD:=hJ hd
            have hd1:((S[j]'hlt).toNat:Int)=48+d:=by omega
            clear hd
            have key:b'=100000000∨¬ (b':Int)*10=1000000000:=by omega
            rcases key with rfl | k1
            · go_wp2_with fail
              rw [show ((g':Int)*10+(48+(d:Int) - 48))=((g'*10+d:Nat):Int) by omega,show (1000000000:Int)=((100000000*10:Nat):Int) from rfl]
              refine (times_any o A' k c' (100000000*10) (g'*10+d) wr aH.out aB.out (by omega) (by omega) (by omega)).mono ?_
              rintro e w5 ⟨G5,n5,o5,rfl,hg5,hblk5,hol5,hod5,⟨hov5,hon5⟩,hb5⟩
              have aI:=hJ (aD.out.flush hlt HD.out hov5)
              have aN:=hJ (hblk5.li0 hol5 (Nat.le_refl _)).weak
              have aO:=hJ hod5
              have aF:=hJ (aC.out.trans (hb5.mono aC.out.size))
              have hlk:=aB.out.len.1
              have hn5:n5≤j+1:=by omega
              clear hblk5 hol5 hod5 hov5 hon5 hb5 hlk
              go_wp2
              go_roundw
              case rel=>exact ⟨j+1,1,0,n5,n5,_,o5,by omega,by go_num,rfl,rfl,rfl,hn5,aI.out,aO.out,aN.out,aF.out⟩
              case measure=>simp [intOf]; omega
            · go_wp2_with fail
              · rw [show ((g':Int)*10+(48+(d:Int) - 48))=((g'*10+d:Nat):Int) by omega,show ((b':Int)*10)=((b'*10:Nat):Int) by omega]
                refine (times_any o A' k c' (b'*10) (g'*10+d) wr aH.out aB.out (by omega) (by omega) (by omega)).mono ?_
                rintro e w5 ⟨G5,n5,o5,rfl,hg5,hblk5,hol5,hod5,⟨hov5,hon5⟩,hb5⟩
                have aI:=hJ (aD.out.flush hlt HD.out hov5)
                have aN:=hJ (hblk5.li0 hol5 (Nat.le_refl _)).weak
                have aO:=hJ hod5
                have aF:=hJ (aC.out.trans (hb5.mono aC.out.size))
                have hlk:=aB.out.len.1
                have hn5:n5≤j+1:=by omega
                clear hblk5 hol5 hod5 hov5 hon5 hb5 hlk
                go_wp2
                go_roundw
                case rel=>exact ⟨j+1,1,0,n5,n5,_,o5,by omega,by go_num,rfl,rfl,rfl,hn5,aI.out,aO.out,aN.out,aF.out⟩
                case measure=>simp [intOf]; omega
              · have hc:¬ (j:Int)=S.length - 1:=beq_eq_false_iff_ne.1 (by assumption:((b':Int)*10 == 1000000000)=false∧((j:Int) == (S.length:Int) - 1)=false).2
                have aI:=hJ (aD.out.next hlt HD.out hd9 (by omega) (by omega))
                go_roundw
                case rel=>exact ⟨j+1,b'*10,g'*10+d,k,c',A',o,by omega,by go_num,rfl,by go_num,by go_num,by omega,aI.out,aH.out,aB.out,aC.out⟩
                case measure=>simp [intOf]; omega
          · obtain rfl:S.length=j:=by omega
            have HV:=hJ aD.out.done
            clear hb0 hb9 hgb aD
            go_wp2_with fail
            refine (signed_any _ o A' k c' wr aH.out aB.out (by omega)).mono ?_
            rw [HV.out]
            rintro e w5 ⟨s5,A5,n5,c5,rfl,hr5,hb5⟩
            have hn5:n5≤k:=by
              have:=hr5.2.1
              rw [sgn_abs,←HV.out] at this
              rw [←this,←aB.out.len.1]
              exact digs_len_le (by decide) (val_lt (by decide) aH.out)
            have aT:=hJ hr5
            have aF:=hJ (aC.out.trans (hb5.mono aC.out.size))
            clear hr5 hb5
            go_wp2_with fail
            refine (inRange_any _ s5 A5 n5 c5 w5 aT.out (by omega)).mono ?_
            rintro e w6 ⟨s6,A6,n6,c6,rfl,hr6,hb6⟩
            have aU:=hJ hr6
            have aR:=hJ (aF.out.trans (hb6.mono aF.out.size))
            clear hr6 hb6
            have aA:=hJ (HP.out.new aR.out)
            obtain ⟨q0,q1⟩:=aA.out.cells
            have fq0:=aA.out.frozen 0
            have fq1:=aA.out.frozen 1
            go_wp2_with fail
            exact bodyPost_ret (results_cell1 rfl _ _ _ _ _ _ _ rfl (aA.out.all (.bool s6) (.slice A6 n6 c6)) Tryz.underlying25 rfl W_size) rfl (RetPE.stored aU.out aA.out rfl rfl (HK.out.trans (aR.out.mono HK.out.size)) (by omega) _ _)
    · have aK:=hJ (show psV l=0 by rw [psV,if_neg hbig,if_neg (by rw [HN.out]; exact hok)])
      have aL:=hJ (show psC l=2 by rw [psC,if_neg hbig,if_neg (by rw [HN.out]; exact hok)])
      rw [aK.out,aL.out]
      have hok':di=false∨(di=true∧mi=true∧z=true):=by cases di <;> cases mi <;> cases z <;> simp_all
      clear hok hbig hn
      rcases hok' with rfl | ⟨rfl,rfl,rfl⟩
      all_goals
        go_enter Tryz.func96,Tryz.ntmps96
        go_wp2_with fail
        refine HT.out.mono ?_
        rintro e w1 ⟨rfl,hb1⟩
        have aG:=hJ hb1
        clear hb1
        go_wp2_with fail
        refine (HI.out w1).mono ?_
        rintro e w2 ⟨rfl,hb2⟩
        have aM:=hJ (aG.out.trans (hb2.mono aG.out.size))
        clear hb2
        have aA:=hJ (HP.out.new aM.out)
        obtain ⟨q0,q1⟩:=aA.out.cells
        have fq0:=aA.out.frozen 0
        have fq1:=aA.out.frozen 1
        go_wp2_with fail
        exact bodyPost_ret (results_cell1 rfl _ _ _ _ _ _ _ rfl (aA.out.all (.bool false) (.slice none 0 0)) Tryz.underlying25 rfl W_size) rfl (RetPE.stored (PI.zero w2) aA.out rfl rfl (HK.out.trans (aM.out.mono HK.out.size)) (by omega) _ _)
end Go.Proofs.YtbgfmegepekapaaGreat

namespace Go.Proofs.YtbgfmegepekapaaGreat
open Go.RowKit
attribute [local go_sem ↓] Go.wp_at_zero Go.wp_at_succ

theorem own_len {w:World} {base n:Nat} {e:TypeId} {v:Value} {k:IntKind} {ys:List Int} (h:w.ownsRow base e 1 v n (vs k ys)):ys.length=n:=by
  have:=h.1
  rw [vs_length] at this
  omega
theorem vs_setI (k:IntKind) (xs:List Int) (i:Nat) (v:Int):(vs k xs).set i (.int k v)=vs k (xs.set i v):=by simp [vs,List.map_set]
set_option maxRecDepth 100000 in
set_option maxHeartbeats 1600000 in
theorem reverse_any (L:List Int) (base G n c:Nat) (w:World) (h:w.ownsRow base 5 1 (.slice (some ⟨G,0,none⟩) n c) n (vs .u8 L)) (hn:n≤2000000) :
    Calls Tryz.prog 93 #[.slice (some ⟨G,0,none⟩) n c] w fun e w'=>e=.returned (.tuple #[])∧w'.ownsRow base 5 1 (.slice (some ⟨G,0,none⟩) n c) n (vs .u8 L.reverse)∧Kp (· = G) w w':=by
  have HO:=hJ h
  have HL:=hJ (own_len h)
  clear h
  go_enter Tryz.func93,Tryz.ntmps93
  go_wp2_with fail
  go_loopw [2,3] (fun i j wr=>∃ (k:Nat) (ys:List Int),k≤n∧k≤(n:Int) - k∧i=.int .i64 k∧j=.int .i64 ((n:Int) - 1 - k)∧Swp L k ys∧wr.ownsRow base 5 1 (.slice (some ⟨G,0,none⟩) n c) n (vs .u8 ys)∧Kp (· = G) w wr) (fun i _ _=>n - (intOf i).toNat)
  case atStart=>exact ⟨0,L,by omega,by omega,rfl,by go_num,Swp.start L,HO.out,Kp.refl _ _⟩
  case round =>
    obtain ⟨k,ys,hk,hk2,rfl,rfl,hsw,hown,hkp⟩:=hrel
    have aB:=hJ hsw
    have HW:=hJ hown
    have aC:=hJ hkp
    clear hsw hown hkp
    by_cases hlt:(k:Int) < (n:Int) - 1 - k
    · obtain ⟨z,hz⟩:∃ z:Int,(n:Int) - 1 - k=z:=⟨_,rfl⟩
      rw [hz] at hlt ⊢
      obtain ⟨j,rfl⟩:∃ j:Nat,z=(j:Int):=⟨z.toNat,by omega⟩
      have HJ:=hJ (show n=k+j+1 by omega)
      have hkj:k < j:=by omega
      have hjn:j < n:=by omega
      have hkn:k < n:=by omega
      clear hz
      have aD:=hJ (own_len HW.out)
      have hck:wr.cell? ⟨G,k,none⟩=some (.int .u8 (ys.getD k 0)):=by
        rw [HW.out.cellAt k (by omega)]
        exact vs_get (by rw [List.getD_eq_getElem?_getD,List.getElem?_eq_getElem (by rw [aD.out]; exact hkn)]; rfl)
      have hcj:wr.cell? ⟨G,j,none⟩=some (.int .u8 (ys.getD j 0)):=by
        rw [HW.out.cellAt j (by omega)]
        exact vs_get (by rw [List.getD_eq_getElem?_getD,List.getElem?_eq_getElem (by rw [aD.out]; exact hjn)]; rfl)
      have hfk:=HW.out.frozenAt k
      have hfj:=HW.out.frozenAt j
      have aA:=hJ (aB.out.next (j:=j) (by have:=HL.out; have:=HJ.out; omega) hkj)
      generalize ys.getD k 0=X at hck aA
      generalize ys.getD j 0=Y at hcj aA
      have hst:=((HW.out.stored k (.int .u8 Y)).1.stored j (.int .u8 X)).1
      rw [vs_setI,vs_setI] at hst
      have aF:=hJ hst
      have aG:=hJ ((aC.out.setCell (p:=⟨G,k,none⟩) (fun _=>rfl) (.int .u8 Y)).setCell (p:=⟨G,j,none⟩) (fun _=>rfl) (.int .u8 X))
      clear hst
      go_wp2_with fail
      go_region
      go_wp2
      go_roundw
      case rel=>exact ⟨k+1,_,by omega,by have:=HJ.out; omega,by go_num,by have:=HJ.out; go_num,aA.out,aF.out,aG.out.drew⟩
      case measure=>simp [intOf]; omega
    · have aH:=hJ (aB.out.done (by have:=HL.out; omega))
      go_wp2_with fail
      go_end0
      exact ⟨rfl,by rw [←aH.out]; exact HW.out,aC.out⟩
end Go.Proofs.YtbgfmegepekapaaGreat

namespace Go.Proofs.YtbgfmegepekapaaGreat
open Go.RowKit
attribute [local go_sem ↓] Go.wp_at_zero Go.wp_at_succ

theorem u8_info:(Tryz.prog.info? 5).map (fun i=>(i.zero,i.size,i.bytes))=some (some (.int .u8 0),1,1):=by kernel_rfl
theorem own_snocB {W:World} {base t k:Nat} {v:Value} {pre:List UInt8} {x:UInt8} {y:Int} (hk:pre.length=k) (h:W.ownsRow base t 1 v (k+1) (vs .u8 (bI pre) ++ [.int .u8 y])) (hy:y=(x.toNat:Int)) :
    W.ownsRow base t 1 v (k+1) (vs .u8 (bI (pre ++ [x]))):=by
  subst hk hy
  rw [show bI (pre ++ [x])=bI pre ++ [(x.toNat:Int)] by simp [bI],vs,List.map_append]
  exact h
theorem own_kpR {w w':World} {base n size:Nat} {e:TypeId} {v:Value} {zs:List Value} {t:Nat→Prop} (h:w.ownsRow base e size v n zs) (hk:Kp t w w') (ht:∀ b,base≤b→¬ t b):w'.ownsRow base e size v n zs:=by
  refine ⟨h.1,?_⟩
  rcases h.2 with h0 | ⟨b,cap,cur,h1,h2,h3,h4⟩
  · exact .inl h0
  · exact .inr ⟨b,cap,cur,h1,h2,(hk.block b (Array.getElem?_eq_some_iff.1 h3).1 (ht b h2)).trans h3,h4⟩
theorem rdz_zero:rdz 0=[]:=rfl
theorem rdz_len {v k:Nat} (h:v < 10 ^ k):(rdz v).length≤k:=by
  unfold rdz
  split
  · simp
  · rw [List.length_reverse]
    rcases Nat.eq_zero_or_pos k with e | e
    · subst e; simp at h; omega
    · exact (dec_len e).2 h
def RetStr (s:List UInt8) (w:World) (e:Ending) (w':World):Prop:=e=.returned (.string ⟨s.toArray⟩)∧Below w.heap.size w w'
theorem rdz_rev {v:Nat} (h:0 < v):(rdz v).reverse=dec v:=by
  rw [rdz,if_neg (by omega),List.reverse_reverse]
theorem bI_rev (l:List UInt8):(bI l).reverse=bI l.reverse:=by simp [bI]

set_option maxRecDepth 100000 in
set_option maxHeartbeats 3200000 in
theorem pstring_any (x:Int) (s:Bool) (A:Option Addr) (n c:Nat) (w:World) (hx:PI w s A n c x) (hn:n≤100000) :
    Calls Tryz.prog 44 #[.agg #[.bool s,.slice A n c]] w (RetStr (decI x) w):=by
  obtain ⟨W,hW⟩:∃ W,w.alloc (.cells #[.bool s,.slice A n c] 25)=W:=⟨_,rfl⟩
  have HK:=hJ (show Below w.heap.size w W by rw [←hW]; exact (Below.refl _ w).alloc (Nat.le_refl _) _)
  have HP:=hJ (show P2 25 W w.heap.size (.bool s) (.slice A n c) by rw [←hW]; exact P2.lit _ _ _ _)
  have HX:=hJ (hx.new HK.out)
  have aL:=hJ (show W.heap.size=w.heap.size+1 by rw [←hW]; simp)
  obtain ⟨p0,p1⟩:=HP.out.cells
  clear hx
  by_cases bC:x=0
  · subst bC
    rw [show decI 0=[48] by rw [decI,if_neg (by decide)]; exact dec_lt (by decide)]
    go_enter Tryz.func44,Tryz.ntmps44
    go_wp2_with fail
    refine (sign_any 0 s A n c W HX.out (by omega)).mono ?_
    rintro e w1 ⟨rfl,hb1⟩
    rw [show cmpI 0 0=0 from rfl]
    have aC:=hJ (HK.out.trans (hb1.mono HK.out.size))
    clear hb1
    go_wp2
    go_ret
    exact ⟨rfl,aC.out⟩
  · obtain ⟨i0,hi0,hz0,hz1,hz2⟩:=info_parts u8_info
    have aM:=hJ (show 0 < x.natAbs by omega)
    have bD:=hJ (HX.out.2.1)
    go_enter Tryz.func44,Tryz.ntmps44
    go_wp2_with fail
    refine (sign_any x s A n c W HX.out (by omega)).mono ?_
    rintro e w1 ⟨rfl,hb1⟩
    obtain ⟨v,hv⟩:∃ v,cmpI x 0=v:=⟨_,rfl⟩
    have hv0:(v == 0)=false:=by rw [←hv]; exact cmpI_zero bC
    rw [hv]
    clear hv p0 p1 hW
    have aC:=hJ hb1
    obtain ⟨p10,p11⟩:=(HP.out.new hb1).cells
    clear hb1
    go_wp2_with fail
    refine (copied_any _ A n c w1 (HX.out.2.2.new aC.out) (by omega)).mono ?_
    rintro e w2 ⟨rfl,hblk2,hb2⟩
    obtain ⟨G,hG⟩:∃ G,w1.heap.size=G:=⟨_,rfl⟩
    rw [hG] at hblk2 ⊢
    have bP:=hJ hblk2
    have bQ:=hJ (aC.out.trans (hb2.mono aC.out.size))
    have HG:=hJ (show w.heap.size < G∧G < w2.heap.size by have:=aC.out.size; have:=aL.out; exact ⟨by omega,hblk2.lt⟩)
    clear hb2 hblk2 p10 p11 hG
    go_wp2_with fail
    obtain ⟨N,hN⟩:∃ N,(rdz x.natAbs).length=N:=⟨_,rfl⟩
    have HN:=hJ hN
    have hN1:N≤1000000:=by
      rw [←hN]
      refine Nat.le_trans (rdz_len (k:=10*n) ?_) (by omega)
      have h1:=digs_lt (B:=4294967296) (by decide) x.natAbs
      rw [bD.out] at h1
      refine Nat.lt_of_lt_of_le h1 ?_
      rw [Nat.pow_mul]
      exact Nat.pow_le_pow_left (by decide) n
    clear hN
    have hGw:w2.heap.size > G:=HG.out.2
    go_loopw [3,4] (fun v l wr=>∃ (t k L c':Nat) (A':Option Addr) (T:List UInt8) (Tl:List Nat),v=.slice A' t c'∧l=.slice (some ⟨G,0,none⟩) k n∧k≤n∧t≤N∧T.length=t∧T ++ rdz L=rdz x.natAbs∧(digs 4294967296 L).length=k∧wr.ownsRow (G+1) 5 1 (.slice A' t c') t (vs .u8 (bI T))∧Blk .u32 wr G 139 (digs 4294967296 L ++ Tl)∧Below G w2 wr) (fun v _ _=>N - lenOf v)
    case atStart=>exact ⟨0,n,x.natAbs,0,none,[],[],rfl,rfl,Nat.le_refl _,by omega,rfl,rfl,bD.out,World.ownsRow_nil _ _ _ _,by rw [List.append_nil]; exact bP.out,Below.refl _ _⟩
    case round =>
      obtain ⟨t,k,L,c',A',T,Tl,rfl,rfl,hk,ht,hT,hTL,hLk,hown,hblk,hbel⟩:=hrel
      have HT:=hJ hT
      have aN:=hJ hTL
      have aO:=hJ hLk
      have HO:=hJ hown
      have bE:=hJ hblk
      have aA:=hJ hbel
      clear hT hTL hLk hown hblk hbel
      rcases Nat.eq_zero_or_pos k with h0 | h0
      · subst h0
        have aR:=hJ (show L=0 from (digs_nil (B:=4294967296) (by decide)).1 (List.eq_nil_of_length_eq_zero aO.out))
        have aS:=hJ (show T=rdz x.natAbs by
          have:=aN.out
          rwa [aR.out,rdz_zero,List.append_nil] at this)
        have htn:0 < t:=by
          have:=HT.out
          rw [aS.out,rdz_pos aM.out,List.length_cons] at this
          omega
        obtain ⟨g8,c8,e8⟩:∃ g c,Value.slice A' t c'=.slice (some ⟨g,0,none⟩) t c:=by
          rcases HO.out.2 with ⟨_,h0⟩ | ⟨g,cap,cur,h1,_⟩
          · omega
          · exact ⟨g,cap,h1⟩
        injection e8 with e81 e82 e83
        subst e81 e83
        have aD:=hJ (bQ.out.trans ⟨aA.out.os,aA.out.tape,aA.out.output,aA.out.size,fun k hk=>aA.out.block k (by have:=HG.out; have:=aL.out; omega)⟩)
        obtain ⟨p20,p21⟩:=(HP.out.new aD.out).cells
        have bF:=hJ HX.out.1
        have aT:=hJ (show W.heap.size≤G by have:=HG.out; have:=aL.out; omega)
        cases s
        · have aU:=hJ (show decI x=T.reverse by
            rw [aS.out,rdz_rev aM.out,decI,if_neg (of_decide_eq_false bF.out.symm)])
          go_wp2_with fail
          refine (reverse_any (bI T) (G+1) g8 t c' wr HO.out (by omega)).mono ?_
          rw [bI_rev]
          rintro e w9 ⟨rfl,hown9,hkp9⟩
          have hconv:=(In.own hown9).text (P:=Tryz.prog) (src:=22) (dst:=9) (e:=5) Tryz.underlying22 Tryz.underlying5 Tryz.underlying9
          have aF:=hJ (aD.out.trans (hkp9.below (B:=W.heap.size) aD.out.size (fun b h=>by have:=own_block_ge HO.out g8 rfl; have:=aT.out; omega)))
          clear hkp9 hown9
          go_wp2
          go_ret
          exact ⟨by rw [aU.out]; rfl,HK.out.trans (aF.out.mono HK.out.size)⟩
        · have aU:=hJ (show decI x=(T ++ [45]).reverse by
            rw [List.reverse_append,aS.out,rdz_rev aM.out,decI,if_pos (of_decide_eq_true bF.out.symm)]
            rfl)
          have aV:=hJ (show t+1≤maxLen by unfold maxLen; omega)
          have aW:=hJ (show (t+1)*1≤140737488355328 by omega)
          have aG:=hJ (show G+1≤wr.heap.size by have:=aA.out.size; omega)
          have aX:=hJ (own_block_ge HO.out)
          have aH:=fun o=>hJ (HO.out.alloc o)
          go_wp2_with (at_builtin; refine wpList_append_own _ rfl _ _ 22 rfl (G+1) 5 i0 (.int .u8 0) 1 1 Tryz.underlying22 hi0 hz0 hz1 hz2 rfl (by decide) _ _ _ rfl (aH _).out ⟨wr.heap.size,0,none⟩ 1 1 [_] rfl rfl (cell_one_new _ _ _) (one_cells _ _) aV.out aW.out (alloc_ge aG.out) ?_; intro v' w7 hown' hgrow _)
          have bG:=hJ ((aD.out.alloc aD.out.size _).grown hgrow (alloc_ge aD.out.size) (fun b hb=>by have:=aX.out b hb; have:=aT.out; omega))
          have ho7:=own_snocB (x:=45) HT.out hown' rfl
          obtain ⟨g7,c7,rfl⟩:∃ g c,v'=.slice (some ⟨g,0,none⟩) (t+1) c:=by
            rcases ho7.2 with ⟨_,h0⟩ | ⟨g,cap,cur,h1,_⟩
            · omega
            · exact ⟨g,cap,h1⟩
          have bH:=hJ ho7
          clear hown' hgrow ho7 aH
          go_wp2_with fail
          refine (reverse_any (bI (T ++ [45])) (G+1) g7 (t+1) c7 w7 bH.out (by omega)).mono ?_
          rw [bI_rev]
          rintro e w9 ⟨rfl,hown9,hkp9⟩
          have hconv:=(In.own hown9).text (P:=Tryz.prog) (src:=22) (dst:=9) (e:=5) Tryz.underlying22 Tryz.underlying5 Tryz.underlying9
          have aF:=hJ (bG.out.trans (hkp9.below (B:=W.heap.size) bG.out.size (fun b h=>by have:=own_block_ge bH.out g7 rfl; have:=aT.out; omega)))
          clear hkp9 hown9
          go_wp2
          go_ret
          exact ⟨by rw [aU.out,List.reverse_append]; rfl,HK.out.trans (aF.out.mono HK.out.size)⟩
      · have aR:=hJ (show 0 < L by
          rcases Nat.eq_zero_or_pos L with h | h
          · have:=aO.out; rw [h,digs_zero,List.length_nil] at this; omega
          · exact h)
        have hk0:(0:Int) < k:=by omega
        go_wp2_with fail
        refine (shorten_any _ Tl G k n 1000000000 wr bE.out aO.out (dig_digs (by decide) L) (by omega) (by decide) (by decide)).mono ?_
        rw [val_digs (by decide)]
        rintro e w5 ⟨rfl,⟨r,hrl,hrd,hrv,hrb⟩,hkp5⟩
        have bR:=hJ hrl
        have bJ:=hJ hrd
        have bK:=hJ hrv
        have bL:=hJ hrb
        have bM:=hJ (show LO .u32 (· = G) w5 (.slice (some ⟨G,0,none⟩) k n) r by
          have:=hrb.li (off:=0) (n:=k) (c:=n) (by rw [List.length_append]; omega) hk
          rw [List.drop_zero,show (r ++ Tl).take k=r by rw [←hrl,List.take_left]] at this
          exact this)
        have bS:=hJ (own_kpR HO.out hkp5 (fun b h e=>by omega))
        have bT:=hJ (aA.out.trans (hkp5.below (B:=G) (by have:=aA.out.size; omega) (fun b h=>by omega)))
        obtain ⟨g0,hg0⟩:∃ g0,L % 1000000000=g0:=⟨_,rfl⟩
        have bU:=hJ hg0
        rw [hg0]
        have hg9:g0 < 1000000000:=by rw [←hg0]; exact Nat.mod_lt _ (by decide)
        clear hrl hrd hrv hrb hkp5 hg0 bE HO aA
        go_wp2_with fail
        refine (trimmed_ok (· = G) r _ k n w5 bJ.out bM.out (by omega)).mono ?_
        rw [bK.out]
        rintro e w6 ⟨⟨k6,rfl,_,hk6,hk6n,hr6⟩,rfl⟩
        have aY:=hJ hk6
        have aZ:=hJ (show Blk .u32 w5 G 139 (digs 4294967296 (L / 1000000000) ++ (r.drop k6 ++ Tl)) by
          rw [←hr6,←List.append_assoc,List.take_append_drop]
          exact bL.out)
        clear hk6 hr6 bL bM bJ bR bK
        have bA:=hJ (InnV.start aN.out)
        rw [bU.out] at bA
        obtain ⟨L',hL'⟩:∃ L',L / 1000000000=L':=⟨_,rfl⟩
        rw [hL'] at aY aZ bA
        have bN:=hJ (show 0 < k6↔0 < L' by
          have:=aY.out
          constructor
          · intro h
            rcases Nat.eq_zero_or_pos L' with h' | h'
            · rw [h',digs_zero,List.length_nil] at this; omega
            · exact h'
          · intro h
            rcases Nat.eq_zero_or_pos k6 with h' | h'
            · rw [h'] at this
              have:=(digs_nil (B:=4294967296) (by decide)).1 (List.eq_nil_of_length_eq_zero this)
              omega
            · exact h')
        clear hL'
        obtain ⟨wo,rfl⟩:∃ W,W=w5:=⟨_,rfl⟩
        go_wp2_with fail
        go_loopw [3,5,6] (fun v g m wr=>∃ (t' m' g' c':Nat) (A':Option Addr) (T':List UInt8),v=.slice A' t' c'∧g=.int .u32 g'∧m=.int .i64 m'∧t'=t+m'∧T'.length=t'∧InnV x.natAbs L' g' m' T'∧wr.ownsRow (G+1) 5 1 (.slice A' t' c') t' (vs .u8 (bI T'))∧Below (G+1) wo wr) (fun _ _ m _=>9 - (intOf m).toNat)
        case atStart=>exact ⟨t,0,g0,c',A',T,rfl,rfl,rfl,rfl,HT.out,bA.out,bS.out,Below.refl _ _⟩
        case round =>
          obtain ⟨t',m,g,c',A',T',rfl,rfl,rfl,rfl,hT',hinn,hown',hbel'⟩:=hrel
          have aI:=hJ hT'
          have aJ:=hJ hinn
          have bB:=hJ hown'
          have aB:=hJ hbel'
          have hm9:=hinn.1
          clear hT' hinn hown' hbel'
          have hg9:g < 1000000000:=Nat.lt_of_lt_of_le aJ.out.2.1 (Nat.pow_le_pow_right (n:=10) (by decide) (show 9 - m≤9 by omega))
          have aK:=hJ (show t+m≤N by
            have h1:=congrArg List.length aJ.out.2.2
            rw [List.length_append,aI.out,HN.out] at h1
            omega)
          obtain ⟨z,hz⟩:∃ z:Int,(g:Int)=z:=⟨_,rfl⟩
          rw [hz]
          have hzl:0≤z:=by omega
          have hzr:z < 1000000000:=by omega
          have HZ:=hJ hz
          clear hz hg9
          by_cases hgo:m < 9∧(0 < k6∨0 < z)
          · have bV:=hJ (aJ.out.next hgo.1 (by
              rcases hgo.2 with h | h
              · exact .inl (bN.out.1 h)
              · exact .inr (by have:=HZ.out; omega)))
            have hq:((m:Int) < 9∧(0:Int) < k6)∨((m:Int) < 9∧k6=0∧0 < z):=by omega
            have hm9':m < 9:=hgo.1
            have aV:=hJ (show t+m+1≤maxLen by have:=aK.out; unfold maxLen; omega)
            have aW:=hJ (show (t+m+1)*1≤140737488355328 by have:=aK.out; omega)
            have aG:=hJ (show G+1≤wr.heap.size by have:=aB.out.size; have:=aZ.out.lt; omega)
            have aX:=hJ (own_block_ge bB.out)
            have aH:=fun o=>hJ (bB.out.alloc o)
            clear hgo
            rcases hq with ⟨hq1,hq2⟩ | ⟨hq1,rfl,hq3⟩
            all_goals
              go_wp2_with (at_builtin; refine wpList_append_own _ rfl _ _ 22 rfl (G+1) 5 i0 (.int .u8 0) 1 1 Tryz.underlying22 hi0 hz0 hz1 hz2 rfl (by decide) _ _ _ rfl (aH _).out ⟨wr.heap.size,0,none⟩ 1 1 [_] rfl rfl (cell_one_new _ _ _) (one_cells _ _) aV.out aW.out (alloc_ge aG.out) ?_; intro v' w1 hown' hgrow _)
              obtain ⟨a9,c9,rfl⟩:=own_form hown'
              have aF:=hJ ((aB.out.alloc aG.out _).grown hgrow (alloc_ge aG.out) aX.out)
              have bW:=hJ (own_snocB (x:=dig8 (g % 10)) aI.out hown' (by rw [dig8_nat (Nat.mod_lt _ (by decide))]; have:=HZ.out; omega))
              clear hown' hgrow aH
              go_wp2
              go_roundw
              case rel=>exact ⟨t+m+1,m+1,g / 10,c9,a9,_,rfl,by have:=HZ.out; exact congrArg _ (by omega),by go_num,by omega,by rw [List.length_append,aI.out]; rfl,bV.out,bW.out,aF.out⟩
              case measure=>simp [intOf]; omega
          · have hq:(¬ (m:Int) < 9)∨((m:Int) < 9∧k6=0∧¬ 0 < z):=by omega
            have bO:=hJ (show m=9∨(L'=0∧g=0) by
              rcases hq with h | ⟨_,h1,h2⟩
              · exact .inl (by omega)
              · refine .inr ⟨?_,by have:=HZ.out; omega⟩
                rcases Nat.eq_zero_or_pos L' with h | h
                · exact h
                · exact absurd (bN.out.2 h) (by omega))
            have bX:=hJ (aJ.out.done bO.out)
            have bY:=hJ (show 0 < m by
              rcases Nat.eq_zero_or_pos m with h | h
              · subst h
                rcases bO.out with h9 | ⟨h1,h2⟩
                · omega
                · have h3:=aJ.out.2.2
                  rw [h1,h2,Nat.zero_mul,rdz_zero,List.append_nil] at h3
                  have h4:=congrArg List.length h3
                  have h5:=congrArg List.length aN.out
                  rw [aI.out] at h4
                  rw [List.length_append,HT.out,←h4,rdz_pos aR.out,List.length_cons] at h5
                  omega
              · exact h)
            have bZ:=hJ (show Blk .u32 wr G 139 (digs 4294967296 L' ++ (r.drop k6 ++ Tl)) from (aB.out.block G (by omega)).trans aZ.out)
            have cA:=hJ (bT.out.trans ⟨aB.out.os,aB.out.tape,aB.out.output,aB.out.size,fun k hk=>aB.out.block k (by omega)⟩)
            have hk6':k6≤n:=by omega
            clear hgo
            rcases hq with hq1 | ⟨hq1,rfl,hq3⟩
            all_goals
              go_wp2
              go_roundw
              case rel=>exact ⟨t+m,_,L',c',A',T',_,rfl,rfl,hk6',aK.out,aI.out,bX.out,aY.out,bB.out,bZ.out,cA.out⟩
              case measure=>have:=aK.out; have:=bY.out; simp [lenOf]; omega
end Go.Proofs.YtbgfmegepekapaaGreat

namespace Go.Proofs.YtbgfmegepekapaaGreat
open Go.RowKit
attribute [local go_sem ↓] Go.wp_at_zero Go.wp_at_succ
attribute [local go_sem] str_get

end Go.Proofs.YtbgfmegepekapaaGreat

namespace Go.Proofs.YtbgfmegepekapaaGreat
open Go.RowKit
attribute [local go_sem ↓] Go.wp_at_zero Go.wp_at_succ

theorem dec_num (m:Nat):isDecB (dec m)=true∧(0 < m→(dec m == [48])=false)∧(dec m).getD 0 0≠45:=by
  have hne:=dec_ne m
  have hd:=isDig_dec m
  have hl:0 < (dec m).length:=List.length_pos_iff.2 hne
  have h0:0 < m→(dec m).getD 0 0≠48:=dec_head m
  have hz:m=0→dec m=[48]:=by rintro rfl; exact dec_lt (by decide)
  refine ⟨isDecB_true hl ?_ hd,fun hm=>?_,?_⟩
  · rintro ⟨h1,h2⟩
    rcases Nat.eq_zero_or_pos m with e | e
    · rw [hz e] at h2; simp at h2
    · exact h0 e (UInt8.toNat_inj.1 h1)
  · rw [beq_eq_false_iff_ne]
    intro e
    have:=h0 hm
    rw [e] at this
    exact this rfl
  · intro e
    have h1:=hd ((dec m)[0]'hl) (List.getElem_mem hl)
    rw [by_at hl] at e
    rw [e] at h1
    exact absurd h1.1 (by decide)
theorem num_decI (x:Int):isNum (decI x)=true∧numOf (decI x)=x:=by
  obtain ⟨h1,h2,h3⟩:=dec_num x.natAbs
  unfold isNum numOf
  by_cases hx:x < 0
  · have e:decI x=45 :: dec x.natAbs:=if_pos hx
    have e1:cutB (decI x)=true:=by rw [e]; rfl
    have e2:cutL (decI x)=dec x.natAbs:=by rw [cutL,e1,e]; rfl
    rw [e1,e2,h1,h2 (by omega),dval_dec]
    refine ⟨rfl,?_⟩
    unfold sgn
    rw [if_pos rfl]
    omega
  · have e:decI x=dec x.natAbs:=if_neg hx
    have e1:cutB (decI x)=false:=by rw [e,cutB,beq_eq_false_iff_ne]; exact h3
    have e2:cutL (decI x)=dec x.natAbs:=by rw [cutL,e1,e]; rfl
    rw [e1,e2,h1,dval_dec]
    refine ⟨rfl,?_⟩
    unfold sgn
    rw [if_neg (by decide)]
    omega
theorem two_ten (q e:Nat) (h:e≤93*q):2 ^ e≤10 ^ (28*q):=by
  refine Nat.le_trans (Nat.pow_le_pow_right (by decide) h) ?_
  rw [Nat.pow_mul,Nat.pow_mul]
  exact Nat.pow_le_pow_left (by decide) q
/-- Twice the bound of the range. -/
def big:Nat:=2 ^ (32*limE+1)
theorem big_lim:big=2*lim:=by
  rw [lim_two,big,Nat.pow_succ,Nat.mul_comm]
theorem dec_short {v k:Nat} (q:Nat) (h:v < 2 ^ k) (hk:k≤93*q) (hq:0 < 28*q):(dec v).length≤28*q:=(dec_len hq).2 (Nat.lt_of_lt_of_le h (two_ten q k hk))
theorem decI_short {x:Int} (h:x.natAbs < big):(decI x).length≤5000:=by
  have h1:(dec x.natAbs).length≤28*177:=dec_short 177 h (by decide) (by decide)
  unfold decI
  split
  · rw [List.length_cons]; omega
  · omega
theorem ps_decI {x:Int} (h:x.natAbs < big):psV (decI x)=outV x∧psC (decI x)=outC x:=by
  have h1:=decI_short h
  obtain ⟨h2,h3⟩:=num_decI x
  have h4:¬ 5000 < (decI x).length:=by omega
  unfold psV psC
  rw [if_neg h4,if_neg h4,if_pos h2,if_pos h2,h3]
  exact ⟨rfl,rfl⟩
theorem lim_big {x:Int} (h:x.natAbs < lim):x.natAbs < big:=by
  rw [big_lim]; omega
end Go.Proofs.YtbgfmegepekapaaGreat

namespace Go.Proofs.YtbgfmegepekapaaGreat
open Go.RowKit
attribute [local go_sem ↓] Go.wp_at_zero Go.wp_at_succ

end Go.Proofs.YtbgfmegepekapaaGreat

namespace Go.Proofs.YtbgfmegepekapaaGreat
open Go.RowKit
attribute [local go_sem ↓] Go.wp_at_zero Go.wp_at_succ
end Go.Proofs.YtbgfmegepekapaaGreat

namespace Go.Proofs.YtbgfmegepekapaaGreat
open Go.RowKit
attribute [local go_sem ↓] Go.wp_at_zero Go.wp_at_succ
end Go.Proofs.YtbgfmegepekapaaGreat

namespace Go.Proofs.YtbgfmegepekapaaGreat
open Go.RowKit
attribute [local go_sem ↓] Go.wp_at_zero Go.wp_at_succ
end Go.Proofs.YtbgfmegepekapaaGreat
namespace Go.Proofs.YtbgfmegepekapaaGreat
open Go.RowKit
section
variable {P:Program} {ops:Array Oper} {Q:Exit→Act→World→Prop} {md:Region.Mode} {S:World→Prop}
end
end Go.Proofs.YtbgfmegepekapaaGreat
