/- The reader of package wire. -/
import Derived.BigQuiet
import Derived.Deep.QuietTactic
import Derived.Test.YtbgfmegepekapaaGreatB2
import Derived.Test.YtbgfmegepekapaaGreatB5
import Derived.Test.YtbgfmegepekapaaGreatGM
import Derived.Test.YtbgfmegepekapaaGreatGW
namespace Go.Proofs.YtbgfmegepekapaaGreat
open Go.RowKit

theorem ret_i {k:IntKind} {a b:Int} (h:a=b):Ending.returned (.int k a)=.returned (.int k b):=by rw [h]
/-- A block of two cells, the second an integer. -/
def R2 (w:World) (g:Nat) (T:TypeId) (sv:Value) (e:Int):Prop:=w.heap[g]?=some (.cells #[sv,.int .i64 e] T (0,0))
section
variable {w w':World} {g:Nat} {T:TypeId} {sv:Value} {e:Int}
theorem R2.lt (h:R2 w g T sv e):g < w.heap.size:=(Array.getElem?_eq_some_iff.1 h).1
theorem R2.cell0 (h:R2 w g T sv e):w.cell? ⟨g,0,none⟩=some sv:=by simp [World.cell?,show w.heap[g]?=_ from h]
theorem R2.cell1 (h:R2 w g T sv e):w.cell? ⟨g,1,none⟩=some (.int .i64 e):=by simp [World.cell?,show w.heap[g]?=_ from h]
theorem R2.fr0 (h:R2 w g T sv e):w.frozen? ⟨g,0,none⟩=false:=by simp [World.frozen?,show w.heap[g]?=_ from h]
theorem R2.fr1 (h:R2 w g T sv e):w.frozen? ⟨g,1,none⟩=false:=by simp [World.frozen?,show w.heap[g]?=_ from h]
theorem R2.kp {t:Nat→Prop} (h:R2 w g T sv e) (hk:Kp t w w') (ht:¬ t g):R2 w' g T sv e:=(hk.block g h.lt ht).trans h
theorem R2.set0 (h:R2 w g T sv e) (u:Value):R2 (w.setCell ⟨g,0,none⟩ u) g T u e:=by
 unfold R2 at h ⊢
 simp [World.setCell,Array.getElem?_modify,h]
theorem R2.set1 (h:R2 w g T sv e) (k:Int):R2 (w.setCell ⟨g,1,none⟩ (.int .i64 k)) g T sv k:=by
 unfold R2 at h ⊢
 simp [World.setCell,Array.getElem?_modify,h]
end
/-- A reader at block g in the state s; what it has left lies in blocks of the kind ok. -/
def Rdr (T:TypeId) (w:World) (g:Nat) (ok:Nat→Prop) (s:St):Prop :=
 ∃ a n c l,R2 w g T (.slice a n c) s.e∧In .u8 w ok (.slice a n c) (bI l)∧(s.e=0→l=s.l)∧l.length≤100000∧¬ ok g
section
variable {T:TypeId} {w w':World} {g:Nat} {ok ok' t:Nat→Prop} {s:St}
theorem Rdr.kp (h:Rdr T w g ok s) (hk:Kp t w w') (h1:¬ t g) (h2:∀ b,b < w.heap.size→ok b→¬ t b):Rdr T w' g ok s:=by
 obtain ⟨a,n,c,l,hr,hi,hl,hn,ho⟩:=h
 exact ⟨a,n,c,l,hr.kp hk h1,hi.kp hk h2,hl,hn,ho⟩
theorem Rdr.new (h:Rdr T w g ok s) (hb:Below w.heap.size w w'):Rdr T w' g ok s:=h.kp (t:=fun _=>False) (Kp.new hb) (fun e=>e) fun _ _ _ e=>e
theorem Rdr.lt (h:Rdr T w g ok s):g < w.heap.size:=by
 obtain ⟨a,n,c,l,hr,_⟩:=h
 exact hr.lt
theorem Rdr.mono (h:Rdr T w g ok s) (ho:∀ b,b < w.heap.size→ok b→ok' b) (hg:¬ ok' g):Rdr T w g ok' s:=by
 obtain ⟨a,n,c,l,hr,hi,hl,hn,_⟩:=h
 exact ⟨a,n,c,l,hr,hi.mono ho,hl,hn,hg⟩
end
/-- The reader's block and new memory alone. -/
abbrev Own1 (g:Nat) (w w':World):Prop:=Kp (· = g) w w'

def failS (s:St) (k:Nat):St:=if s.e=0 then ⟨s.l,k⟩ else s
set_option maxHeartbeats 800000 in
theorem fail_any (k:Nat) (g:Nat) (ok:Nat→Prop) (s:St) (w:World) (h:Rdr 142 w g ok s) (hk:k≠0) :
  Calls Tryz.prog 153 #[.pointer (some ⟨g,0,none⟩),.int .i64 k] w fun e w'=>e=.returned (.tuple #[])∧Rdr 142 w' g ok (failS s k)∧Own1 g w w':=by
 obtain ⟨a,n,c,l,hr,hi,hl,hn,ho⟩:=h
 have hc1:=hr.cell1
 have hf1:=hr.fr1
 by_cases he:s.e=0
 ·have HK:=hJ hk
  have HS:=hJ (show failS s k=⟨s.l,k⟩ by rw [failS,if_pos he])
  rw [he] at hc1
  have HR:=hJ hr
  have HI:=hJ hi
  clear hk hl he hr hi
  go_enter Tryz.func153,Tryz.ntmps153
  go_wp2
  go_end0
  have hkp:Own1 g w (w.setCell ⟨g,1,none⟩ (.int .i64 k)):=(Kp.refl (· = g) w).setCell (p:=⟨g,1,none⟩) (fun _=>rfl) _
  refine ⟨rfl,?_,hkp⟩
  rw [HS.out]
  exact ⟨a,n,c,l,HR.out.set1 _,HI.out.kp hkp (fun b _ hb e=>ho (e ▸ hb)),fun h=>absurd h HK.out,hn,ho⟩
 ·have HS:=hJ (show failS s k=s by rw [failS,if_neg he])
  have HR:=hJ (show Rdr 142 w g ok s from ⟨a,n,c,l,hr,hi,hl,hn,ho⟩)
  have hb:((s.e:Int) == 0)=false:=beq_eq_false_iff_ne.2 (by omega)
  clear hk hl he hr hi
  go_enter Tryz.func153,Tryz.ntmps153
  go_wp2
  go_end0
  refine ⟨rfl,?_,Kp.refl _ _⟩
  rw [HS.out]
  exact HR.out
theorem size_byte:∀ W,(sizeOf 5).run Tryz.prog W=.ok 1 W:=fun _=>by kernel_rfl

def nextS (s:St):Nat × St:=if s.e≠0 then (0,s) else match s.l with
 | []=>(0,⟨[],3⟩)
 | c :: r=>(c.toNat,⟨r,0⟩)
set_option maxHeartbeats 800000 in
theorem next_nil (g:Nat) (ok:Nat→Prop) (s:St) (a:Option Addr) (c:Nat) (w:World) (HR:Hid (Rdr 142 w g ok s)) (hc0:w.cell? ⟨g,0,none⟩=some (.slice a 0 c)) (HE:Hid ((failS s 3).e≠0)) :
  Calls Tryz.prog 164 #[.pointer (some ⟨g,0,none⟩)] w fun e w'=>e=.returned (.int .u8 0)∧Rdr 142 w' g ok (failS s 3)∧Own1 g w w':=by
 go_enter Tryz.func164,Tryz.ntmps164
 go_wp2_with fail
 refine (fail_any 3 g ok s w HR.out (by decide)).mono ?_
 rintro e w1 ⟨rfl,hw1,hk1⟩
 have HW:=hJ hw1
 obtain ⟨a1,n1,c1,l1,hr1,hi1,hl1,hn1,ho1⟩:=hw1
 have hc2:=hr1.cell1
 have hne:(((failS s 3).e:Int) != 0)=true:=by rw [bne_iff_ne]; have:=HE.out; omega
 clear hr1 hi1 hl1 hn1 ho1
 go_wp2
 go_ret
 exact ⟨rfl,HW.out,hk1⟩
set_option maxHeartbeats 800000 in
theorem next_err (g:Nat) (ok:Nat→Prop) (s:St) (a:Option Addr) (n c:Nat) (w:World) (HR:Hid (Rdr 142 w g ok s)) (hc0:w.cell? ⟨g,0,none⟩=some (.slice a n c)) (hc1:w.cell? ⟨g,1,none⟩=some (.int .i64 s.e)) (hne:((s.e:Int) != 0)=true) (hnz:((n:Int) == 0)=false) :
  Calls Tryz.prog 164 #[.pointer (some ⟨g,0,none⟩)] w fun e w'=>e=.returned (.int .u8 0)∧Rdr 142 w' g ok s∧Own1 g w w':=by
 go_enter Tryz.func164,Tryz.ntmps164
 go_wp2
 go_ret
 exact ⟨rfl,HR.out,Kp.refl _ _⟩
set_option maxHeartbeats 800000 in
theorem next_byte (g:Nat) (ok:Nat→Prop) (x:UInt8) (r:List UInt8) (a':Option Addr) (n c c' b off:Nat) (w:World) (HR:Hid (R2 w g 142 (.slice (some ⟨b,off,none⟩) n c) 0))
  (hc0:w.cell? ⟨g,0,none⟩=some (.slice (some ⟨b,off,none⟩) n c)) (hf0:w.frozen? ⟨g,0,none⟩=false) (hc1:w.cell? ⟨g,1,none⟩=some (.int .i64 0)) (hcell:w.cell? ⟨b,off,none⟩=some (.int .u8 x.toNat))
  (hsl:∀ W,(Instr.slice 22 (.slice (some ⟨b,off,none⟩) n c) (some (.int .i64 1)) none none).run Tryz.prog W=.ok (.slice a' (n - 1) c') W) (HI:Hid (In .u8 w ok (.slice a' (n - 1) c') (bI r))) (HL:Hid (r.length≤100000)) (HO:Hid (¬ ok g))
  (hnz:((n:Int) == 0)=false) (hlt:0 < n) :
  Calls Tryz.prog 164 #[.pointer (some ⟨g,0,none⟩)] w fun e w'=>e=.returned (.int .u8 x.toNat)∧Rdr 142 w' g ok ⟨r,0⟩∧Own1 g w w':=by
 go_enter Tryz.func164,Tryz.ntmps164
 go_wp2
 go_ret
 have hkp:Own1 g w (w.setCell ⟨g,0,none⟩ (.slice a' (n - 1) c')):=(Kp.refl (· = g) w).setCell (p:=⟨g,0,none⟩) (fun _=>rfl) _
 exact ⟨rfl,⟨a',n - 1,c',r,HR.out.set0 _,HI.out.kp hkp (fun b _ hb e=>HO.out (e ▸ hb)),fun _=>rfl,HL.out,HO.out⟩,hkp⟩
theorem next_any (g:Nat) (ok:Nat→Prop) (s:St) (w:World) (h:Rdr 142 w g ok s) :
  Calls Tryz.prog 164 #[.pointer (some ⟨g,0,none⟩)] w fun e w'=>e=.returned (.int .u8 (nextS s).1)∧Rdr 142 w' g ok (nextS s).2∧Own1 g w w':=by
 have HR:=hJ h
 obtain ⟨a,n,c,l,hr,hi,hl,hn,ho⟩:=h
 have hc0:=hr.cell0
 have hc1:=hr.cell1
 obtain ⟨hnl,hnc⟩:=hi.len
 rw [bI_len] at hnl
 by_cases he:s.e=0
 ·have hll:=hl he
  obtain ⟨sl,se⟩:=s
  dsimp only at he hll
  subst hll he
  cases l with
  | nil =>
   have hn0:n=0:=hnl
   subst hn0
   exact next_nil g ok _ a c w HR hc0 (hJ (by decide))
  | cons x r =>
   obtain ⟨b,off,rfl,hb1,hb2,hcell⟩:=hi.at_ (j:=0) (by simp [bI])
   obtain ⟨a',c',hsl,hi'⟩:=hi.from_ (P:=Tryz.prog) (ty:=22) Tryz.underlying22 size_byte 1 (by simp at hnl; omega) 1 rfl
   simp at hnl hn
   exact next_byte g ok x r a' n c c' b off w (hJ hr) hc0 hr.fr0 hc1 hcell hsl (hJ hi') (hJ (by omega)) (hJ ho) (beq_eq_false_iff_ne.2 (by omega)) (by omega)
 ·have e1:nextS s=(0,s):=by rw [nextS,if_pos he]
  have e2:failS s 3=s:=by rw [failS,if_neg he]
  rw [e1]
  by_cases h0:n=0
  ·subst h0
   have:=next_nil g ok s a c w HR hc0 (hJ (by rw [e2]; exact he))
   rw [e2] at this
   exact this
  ·exact next_err g ok s a n c w HR hc0 hc1 (by rw [bne_iff_ne]; omega) (beq_eq_false_iff_ne.2 (by omega))
end Go.Proofs.YtbgfmegepekapaaGreat
namespace Go.Proofs.YtbgfmegepekapaaGreat
open Go.RowKit

theorem nextS_err {s:St} (h:s.e≠0):nextS s=(0,s):=by rw [nextS,if_pos h]
theorem Rdr.e_cell {T:TypeId} {w:World} {g:Nat} {ok:Nat→Prop} {s:St} (h:Rdr T w g ok s):w.cell? ⟨g,1,none⟩=some (.int .i64 s.e):=by
 obtain ⟨a,n,c,l,hr,_⟩:=h
 exact hr.cell1
set_option maxHeartbeats 800000 in
theorem ruint_err (g:Nat) (ok:Nat→Prop) (s:St) (w:World) (h:Rdr 142 w g ok s) (he:s.e≠0) :
  Calls Tryz.prog 152 #[.pointer (some ⟨g,0,none⟩)] w fun e w'=>e=.returned (.int .u64 0)∧Rdr 142 w' g ok s∧Own1 g w w':=by
 have HR:=hJ h
 have HE:=hJ he
 have hne:((s.e:Int) != 0)=true:=by rw [bne_iff_ne]; omega
 clear h he
 go_enter Tryz.func152,Tryz.ntmps152
 go_wp2
 go_loopw [4] (fun at_ wr=>at_=.int .i64 0∧w=wr) (fun _ _=>0)
 case atStart=>exact ⟨rfl,rfl⟩
 case round =>
  obtain ⟨rfl,rfl⟩:=hrel
  go_wp2_with fail
  refine (next_any g ok s w HR.out).mono ?_
  rw [nextS_err HE.out]
  rintro e w1 ⟨rfl,hw1,hk1⟩
  have HW:=hJ hw1
  have hc1:=hw1.e_cell
  clear hw1
  go_wp2
  go_ret
  exact ⟨rfl,HW.out,hk1⟩
set_option maxHeartbeats 1600000 in
theorem ruint_ok (g:Nat) (ok:Nat→Prop) (l:List UInt8) (w:World) (h:Rdr 142 w g ok ⟨l,0⟩) :
  Calls Tryz.prog 152 #[.pointer (some ⟨g,0,none⟩)] w fun e w'=>e=.returned (.int .u64 (scan 0 0 l).1)∧Rdr 142 w' g ok (scan 0 0 l).2∧Own1 g w w':=by
 have HR:=hJ h
 clear h
 go_enter Tryz.func152,Tryz.ntmps152
 go_wp2
 go_loopw [3,4] (fun v at_ wr=>∃ (i acc:Nat) (r:List UInt8),i≤9∧at_=.int .i64 i∧v=.int .u64 acc∧acc < 128 ^ i∧scan i acc r=scan 0 0 l∧Rdr 142 wr g ok ⟨r,0⟩∧Own1 g w wr) (fun _ at_ _=>10 - (intOf at_).toNat)
 case atStart=>exact ⟨0,0,l,by omega,rfl,rfl,by decide,rfl,HR.out,Kp.refl _ _⟩
 case round =>
  obtain ⟨i,acc,r,hi,rfl,rfl,hacc,hsc,hrd,hk⟩:=hrel
  have HS:=hJ hsc
  have HA:=hJ hacc
  have HD:=hJ hrd
  clear hsc hacc hrd
  cases r with
  | nil =>
   have aA:=hJ (show scan 0 0 l=(0,⟨[],3⟩) from HS.out.symm)
   by_cases h0:0 < i
   ·by_cases h9':i=9
    ·subst h9'
     skip
     go_wp2_with fail
     refine (next_any g ok ⟨[],0⟩ wr HD.out).mono ?_
     rw [show nextS ⟨[],0⟩=(0,⟨[],3⟩) from rfl]
     rintro e w1 ⟨rfl,hw1,hk1⟩
     have HW:=hJ hw1
     have hc1:=hw1.e_cell
     clear hw1

     go_wp2_with fail
     refine (fail_any 2 g ok ⟨[],3⟩ w1 HW.out (by decide)).mono ?_
     rw [show failS ⟨[],3⟩ 2=⟨[],3⟩ from rfl]
     rintro e w2 ⟨rfl,hw2,hk2⟩
     have aB:=hJ hw2
     have hc2:=hw2.e_cell
     clear hw2 hc1
     go_wp2
     go_ret
     rw [aA.out]
     exact ⟨rfl,aB.out,(hk.trans hk1).trans hk2⟩
    have h9:((i:Int) == 9)=false:=beq_eq_false_iff_ne.2 (by omega)
    skip
    go_wp2_with fail
    refine (next_any g ok ⟨[],0⟩ wr HD.out).mono ?_
    rw [show nextS ⟨[],0⟩=(0,⟨[],3⟩) from rfl]
    rintro e w1 ⟨rfl,hw1,hk1⟩
    have HW:=hJ hw1
    have hc1:=hw1.e_cell
    clear hw1

    go_wp2_with fail
    refine (fail_any 2 g ok ⟨[],3⟩ w1 HW.out (by decide)).mono ?_
    rw [show failS ⟨[],3⟩ 2=⟨[],3⟩ from rfl]
    rintro e w2 ⟨rfl,hw2,hk2⟩
    have aB:=hJ hw2
    have hc2:=hw2.e_cell
    clear hw2 hc1
    go_wp2
    go_ret
    rw [aA.out]
    exact ⟨rfl,aB.out,(hk.trans hk1).trans hk2⟩
   obtain rfl:i=0:=by omega
   skip
   go_wp2_with fail
   refine (next_any g ok ⟨[],0⟩ wr HD.out).mono ?_
   rw [show nextS ⟨[],0⟩=(0,⟨[],3⟩) from rfl]
   rintro e w1 ⟨rfl,hw1,hk1⟩
   have HW:=hJ hw1
   have hc1:=hw1.e_cell
   clear hw1
   go_wp2
   go_ret
   rw [aA.out]
   exact ⟨rfl,HW.out,hk.trans hk1⟩
  | cons c r =>
   have hcl:=c.toNat_lt
   obtain ⟨x,hx⟩:∃ x:Int,(c.toNat:Int)=x:=⟨_,rfl⟩
   have aD:0≤x:=by omega
   have aF:x < 256:=by omega
   have HX:=hJ hx
   by_cases hB1:i=9∧1 < x
   ·obtain ⟨rfl,hb⟩:=hB1
    have aA:=hJ (show scan 0 0 l=(0,⟨r,2⟩) by rw [←HS.out,scan,if_pos (.inl ⟨rfl,by omega⟩)])
    clear hx hcl
    go_wp2_with fail
    refine (next_any g ok ⟨c :: r,0⟩ wr HD.out).mono ?_
    rw [show nextS ⟨c :: r,0⟩=(c.toNat,⟨r,0⟩) from rfl]
    rintro e w1 ⟨rfl,hw1,hk1⟩
    have HW:=hJ hw1
    have hc1:=hw1.e_cell
    clear hw1
    rw [HX.out]
    go_wp2_with fail
    refine (fail_any 2 g ok ⟨r,0⟩ w1 HW.out (by decide)).mono ?_
    rw [show failS ⟨r,0⟩ 2=⟨r,2⟩ from rfl]
    rintro e w2 ⟨rfl,hw2,hk2⟩
    have aB:=hJ hw2
    have hc2:=hw2.e_cell
    clear hw2 hc1
    go_wp2
    go_ret
    rw [aA.out]
    exact ⟨rfl,aB.out,(hk.trans hk1).trans hk2⟩
   by_cases hB2:0 < i∧x=0
   ·obtain ⟨hi0,hb⟩:=hB2
    have aA:=hJ (show scan 0 0 l=(0,⟨r,2⟩) by rw [←HS.out,scan,if_pos (.inr ⟨hi0,by omega⟩)])
    subst hb
    clear hx hcl hB1 aD aF
    by_cases h9':i=9
    ·subst h9'
     go_wp2_with fail
     refine (next_any g ok ⟨c :: r,0⟩ wr HD.out).mono ?_
     rw [show nextS ⟨c :: r,0⟩=(c.toNat,⟨r,0⟩) from rfl]
     rintro e w1 ⟨rfl,hw1,hk1⟩
     have HW:=hJ hw1
     have hc1:=hw1.e_cell
     clear hw1
     rw [HX.out]
     go_wp2_with fail
     refine (fail_any 2 g ok ⟨r,0⟩ w1 HW.out (by decide)).mono ?_
     rw [show failS ⟨r,0⟩ 2=⟨r,2⟩ from rfl]
     rintro e w2 ⟨rfl,hw2,hk2⟩
     have aB:=hJ hw2
     have hc2:=hw2.e_cell
     clear hw2 hc1
     go_wp2
     go_ret
     rw [aA.out]
     exact ⟨rfl,aB.out,(hk.trans hk1).trans hk2⟩

    have h9:((i:Int) == 9)=false:=beq_eq_false_iff_ne.2 (by omega)
    go_wp2_with fail
    refine (next_any g ok ⟨c :: r,0⟩ wr HD.out).mono ?_
    rw [show nextS ⟨c :: r,0⟩=(c.toNat,⟨r,0⟩) from rfl]
    rintro e w1 ⟨rfl,hw1,hk1⟩
    have HW:=hJ hw1
    have hc1:=hw1.e_cell
    clear hw1
    rw [HX.out]
    go_wp2_with fail
    refine (fail_any 2 g ok ⟨r,0⟩ w1 HW.out (by decide)).mono ?_
    rw [show failS ⟨r,0⟩ 2=⟨r,2⟩ from rfl]
    rintro e w2 ⟨rfl,hw2,hk2⟩
    have aB:=hJ hw2
    have hc2:=hw2.e_cell
    clear hw2 hc1
    go_wp2
    go_ret
    rw [aA.out]
    exact ⟨rfl,aB.out,(hk.trans hk1).trans hk2⟩

   have hgood:¬ ((i=9∧1 < c.toNat)∨(0 < i∧c.toNat=0)):=by
    rintro (⟨h1,h2⟩ | ⟨h1,h2⟩)
    ·exact hB1 ⟨h1,by omega⟩
    exact hB2 ⟨h1,by omega⟩
   have HG:=hJ hgood
   by_cases h128:x < 128
   ·have aA:=hJ (show scan 0 0 l=(acc+c.toNat*128 ^ i,⟨r,0⟩) by rw [←HS.out,scan,if_neg HG.out,if_pos (by omega)])
    clear hx hcl hgood
    by_cases h9':i=9
    ·subst h9'
     have aG:¬ 1 < x:=fun h=>hB1 ⟨rfl,h⟩
     have aC:¬ x=0:=fun h=>hB2 ⟨by omega,h⟩
     obtain rfl:x=1:=by omega
     clear hB1 hB2 aG aC h128 aD aF
     go_wp2_with fail
     refine (next_any g ok ⟨c :: r,0⟩ wr HD.out).mono ?_
     rw [show nextS ⟨c :: r,0⟩=(c.toNat,⟨r,0⟩) from rfl]
     rintro e w1 ⟨rfl,hw1,hk1⟩
     have HW:=hJ hw1
     have hc1:=hw1.e_cell
     clear hw1
     rw [HX.out]

     go_wp2
     go_ret
     rw [aA.out]
     exact ⟨ret_i ((or_step9 acc HA.out).trans (by rw [show c.toNat=1 by have:=HX.out; omega])),HW.out,hk.trans hk1⟩
    have h9:((i:Int) == 9)=false:=beq_eq_false_iff_ne.2 (by omega)
    by_cases h0:0 < i
    ·have aC:(x == 0)=false:=beq_eq_false_iff_ne.2 (fun h=>hB2 ⟨h0,h⟩)
     clear hB1 hB2
     go_wp2_with fail
     refine (next_any g ok ⟨c :: r,0⟩ wr HD.out).mono ?_
     rw [show nextS ⟨c :: r,0⟩=(c.toNat,⟨r,0⟩) from rfl]
     rintro e w1 ⟨rfl,hw1,hk1⟩
     have HW:=hJ hw1
     have hc1:=hw1.e_cell
     clear hw1
     rw [HX.out]

     go_wp2
     go_ret
     rw [aA.out]
     exact ⟨ret_i ((or_stepI acc c.toNat i x HX.out (by omega) HA.out).trans (by rw [Nat.mod_eq_of_lt (show c.toNat < 128 by have:=HX.out; omega)])),HW.out,hk.trans hk1⟩
    obtain rfl:i=0:=by omega
    clear hB1 hB2
    go_wp2_with fail
    refine (next_any g ok ⟨c :: r,0⟩ wr HD.out).mono ?_
    rw [show nextS ⟨c :: r,0⟩=(c.toNat,⟨r,0⟩) from rfl]
    rintro e w1 ⟨rfl,hw1,hk1⟩
    have HW:=hJ hw1
    have hc1:=hw1.e_cell
    clear hw1
    rw [HX.out]

    go_wp2
    go_ret
    rw [aA.out]
    exact ⟨ret_i ((or_step0 acc c.toNat x HX.out HA.out).trans (by rw [Nat.mod_eq_of_lt (show c.toNat < 128 by have:=HX.out; omega)])),HW.out,hk.trans hk1⟩
   ·have hi9:i < 9:=by
     rcases Nat.lt_or_ge i 9 with h | h
     ·exact h
     exact absurd ⟨by omega,by omega⟩ hB1
    have aA:=hJ (show scan (i+1) (acc+c.toNat % 128*128 ^ i) r=scan 0 0 l by rw [←HS.out,scan,if_neg HG.out,if_neg (by omega)])
    have h9:((i:Int) == 9)=false:=beq_eq_false_iff_ne.2 (by omega)
    have aC:(x == 0)=false:=beq_eq_false_iff_ne.2 (by omega)
    clear hx hcl hgood hB1 hB2
    by_cases h0:0 < i
    ·skip
     go_wp2_with fail
     refine (next_any g ok ⟨c :: r,0⟩ wr HD.out).mono ?_
     rw [show nextS ⟨c :: r,0⟩=(c.toNat,⟨r,0⟩) from rfl]
     rintro e w1 ⟨rfl,hw1,hk1⟩
     have HW:=hJ hw1
     have hc1:=hw1.e_cell
     clear hw1
     rw [HX.out]

     go_wp2
     go_roundw
     case rel=>exact ⟨i+1,acc+c.toNat % 128*128 ^ i,r,by omega,by go_num,congrArg _ (or_stepI acc c.toNat i x HX.out hi9 HA.out),acc_bd HA.out,aA.out,HW.out,hk.trans hk1⟩
     case measure=>simp [intOf]; omega
    ·obtain rfl:i=0:=by omega
     go_wp2_with fail
     refine (next_any g ok ⟨c :: r,0⟩ wr HD.out).mono ?_
     rw [show nextS ⟨c :: r,0⟩=(c.toNat,⟨r,0⟩) from rfl]
     rintro e w1 ⟨rfl,hw1,hk1⟩
     have HW:=hJ hw1
     have hc1:=hw1.e_cell
     clear hw1
     rw [HX.out]

     go_wp2
     go_roundw
     case rel=>exact ⟨0+1,acc+c.toNat % 128*128 ^ 0,r,by omega,by go_num,congrArg _ (or_step0 acc c.toNat x HX.out HA.out),acc_bd HA.out,aA.out,HW.out,hk.trans hk1⟩
     case measure=>simp [intOf]
theorem ruint_any (g:Nat) (ok:Nat→Prop) (s:St) (w:World) (h:Rdr 142 w g ok s) :
  Calls Tryz.prog 152 #[.pointer (some ⟨g,0,none⟩)] w fun e w'=>e=.returned (.int .u64 (uintS s).1)∧Rdr 142 w' g ok (uintS s).2∧Own1 g w w':=by
 by_cases he:s.e=0
 ·obtain ⟨l,e⟩:=s
  dsimp only at he
  subst he
  rw [uintS,if_neg (by simp)]
  exact ruint_ok g ok l w h
 ·rw [uintS_err he]
  exact ruint_err g ok s w h he
end Go.Proofs.YtbgfmegepekapaaGreat
namespace Go.Proofs.YtbgfmegepekapaaGreat
open Go.RowKit

set_option maxHeartbeats 800000 in
theorem rdlen_any (g:Nat) (ok:Nat→Prop) (s:St) (w:World) (h:Rdr 142 w g ok s) :
  Calls Tryz.prog 133 #[.pointer (some ⟨g,0,none⟩)] w fun e w'=>e=.returned (.int .i64 (lenS s).1)∧Rdr 142 w' g ok (lenS s).2∧Own1 g w w':=by
 have HR:=hJ h
 clear h
 have hz:=uintS_lt s
 obtain ⟨z,he⟩:=nmz ((uintS s).1)
 have HZ:=hJ he
 rw [he] at hz
 obtain ⟨y,hy⟩:∃ y:Int,(z:Int)=y:=⟨_,rfl⟩
 have h1:0≤y:=by omega
 have h2:y < 18446744073709551616:=by omega
 have HY:=hJ hy
 clear hz he hy
 go_enter Tryz.func133,Tryz.ntmps133
 go_wp2_with fail
 refine (ruint_any g ok s w HR.out).mono ?_
 rw [HZ.out,HY.out]
 rintro e w1 ⟨rfl,hw1,hk1⟩
 have HW:=hJ hw1
 obtain ⟨a,n,c,l,hr,hi,hl,hn,ho⟩:=hw1
 have hc0:=hr.cell0
 obtain ⟨hnl,hnc⟩:=hi.len
 rw [bI_len] at hnl
 have hn2:n≤100000:=by omega
 by_cases hgt:(n:Int) < y
 ·have HS:=hJ (show lenS s=(0,failS (uintS s).2 3) by
   by_cases e0:(uintS s).2.e=0
   ·rw [lenS,if_pos (by rw [←hl e0,←hnl,HZ.out]; have:=HY.out; omega),failS,if_pos e0]
   have:=uintS_zero e0
   rw [HZ.out] at this
   have:=HY.out
   omega)
  clear hr hi hl hn ho hnl hnc
  go_wp2_with fail
  refine (fail_any 3 g ok _ w1 HW.out (by decide)).mono ?_
  rintro e w2 ⟨rfl,hw2,hk2⟩
  go_wp2
  go_ret
  rw [HS.out]
  exact ⟨rfl,hw2,hk1.trans hk2⟩
 ·have HS:=hJ (show lenS s=uintS s by
   by_cases e0:(uintS s).2.e=0
   ·rw [lenS,if_neg (by rw [←hl e0,←hnl,HZ.out]; have:=HY.out; omega)]
   rw [lenS,if_neg (by rw [uintS_zero e0]; omega)])
  clear hr hi hl hn ho hnl hnc
  go_wp2
  go_ret
  rw [HS.out]
  refine ⟨?_,HW.out,hk1⟩
  rw [HZ.out,HY.out]
  rfl
set_option maxHeartbeats 800000 in
theorem rdpart_any (g:Nat) (ok:Nat→Prop) (s:St) (w:World) (h:Rdr 142 w g ok s) :
  Calls Tryz.prog 94 #[.pointer (some ⟨g,0,none⟩)] w fun e w'=>(∃ a n c,e=.returned (.slice a n c)∧In .u8 w' ok (.slice a n c) (bI (partS s).1))∧Rdr 142 w' g ok (partS s).2∧Own1 g w w':=by
 have HR:=hJ h
 clear h
 obtain ⟨m,hm⟩:∃ m,(lenS s).1=m:=⟨_,rfl⟩
 have HM:=hJ hm
 clear hm
 go_enter Tryz.func94,Tryz.ntmps94
 go_wp2_with fail
 refine (rdlen_any g ok s w HR.out).mono ?_
 rw [HM.out]
 rintro e w1 ⟨rfl,hw1,hk1⟩
 obtain ⟨a,n,c,l,hr,hi,hl,hn,ho⟩:=hw1
 have hc0:=hr.cell0
 have hf0:=hr.fr0
 obtain ⟨hnl,hnc⟩:=hi.len
 rw [bI_len] at hnl
 have hmn:m≤n:=by
  by_cases e0:(lenS s).2.e=0
  ·have:=lenS_le s
   rw [HM.out,←hl e0] at this
   omega
  have:=lenS_e s e0
  rw [HM.out] at this
  omega
 obtain ⟨a1,hs1,hi1⟩:=hi.to_ (P:=Tryz.prog) (ty:=22) Tryz.underlying22 size_byte m hmn
 obtain ⟨a2,c2,hs2,hi2⟩:=hi.from_ (P:=Tryz.prog) (ty:=22) Tryz.underlying22 size_byte m hmn m rfl
 have aA:=hJ hi1
 have aB:=hJ hi2
 have aC:=hJ hr
 have HL:=hJ hl
 have HO:=hJ ho
 have HN:=hJ hn
 clear hr hi hl hn ho hnl hi1 hi2 hnc hmn
 go_wp2
 go_ret
 have hkp:Own1 g w1 (w1.setCell ⟨g,0,none⟩ (.slice a2 (n - m) c2)):=(Kp.refl (· = g) w1).setCell (p:=⟨g,0,none⟩) (fun _=>rfl) _
 have hx:∀ b,b < w1.heap.size→ok b→¬ b=g:=fun b _ hb e=>HO.out (e ▸ hb)
 have e1:(partS s).1=l.take m:=by
  unfold partS
  by_cases e0:(lenS s).2.e=0
  ·rw [if_neg (by simpa using e0),HM.out,HL.out e0]
  have:=lenS_e s e0
  rw [HM.out] at this
  rw [if_pos e0,this,List.take_zero]
 refine ⟨⟨a1,m,c,rfl,?_⟩,⟨a2,n - m,c2,l.drop m,?_,?_,?_,?_,HO.out⟩,hk1.trans hkp⟩
 ·rw [e1]
  have:=aA.out.kp hkp hx
  rw [bI,←List.map_take] at this
  exact this
 ·have:=aC.out.set0 (.slice a2 (n - m) c2)
  have e2:(partS s).2.e=(lenS s).2.e:=by
   unfold partS
   by_cases e0:(lenS s).2.e=0
   ·rw [if_neg (by simpa using e0),e0]
   rw [if_pos e0]
  rw [e2]
  exact this
 ·have:=aB.out.kp hkp hx
  rw [bI,←List.map_drop] at this
  exact this
 ·intro h0
  unfold partS at h0 ⊢
  by_cases e0:(lenS s).2.e=0
  ·rw [if_neg (by simpa using e0),HM.out,HL.out e0]
  rw [if_pos e0] at h0
  exact absurd h0 e0
 ·rw [List.length_drop]
  have:=HN.out
  omega
set_option maxHeartbeats 800000 in
theorem rdraw_any (g:Nat) (ok:Nat→Prop) (s:St) (w:World) (h:Rdr 142 w g ok s) (hl:(partS s).1.length≤1000000) :
  Calls Tryz.prog 46 #[.pointer (some ⟨g,0,none⟩)] w fun e w'=>(∃ a n c,e=.returned (.slice a n c)∧n=(partS s).1.length∧w'.ownsRow w.heap.size 5 1 (.slice a n c) n (vs .u8 (bI (partS s).1)))∧Rdr 142 w' g ok (partS s).2∧Own1 g w w':=by
 have HL:=hJ hl
 have HR:=hJ h
 clear hl h
 go_enter Tryz.func46,Tryz.ntmps46
 go_wp2_with fail
 refine (rdpart_any g ok s w HR.out).mono ?_
 rintro e w1 ⟨⟨a,n,c,rfl,hi⟩,hw1,hk1⟩
 have hn:=hi.len.1
 rw [bI_len] at hn
 have HN:=hJ hn
 have HW:=hJ hw1
 have HI:=hJ hi
 clear hn hw1 hi
 go_wp2_with fail
 refine (clone_any (partS s).1 a n c ok w1 HN.out.symm (by have:=HL.out; have:=HN.out; omega) HI.out).mono ?_
 rintro e w2 ⟨a2,c2,rfl,hown,hb⟩
 go_wp2
 go_ret
 rw [bI_len] at hown ⊢
 exact ⟨⟨a2,_,c2,rfl,rfl,own_base hown hk1.size⟩,HW.out.new hb,hk1.step (Kp.of_below hb (fun _ _ h=>h)) (fun k hk h=>by have:=hk1.size; omega)⟩
def endS (s:St):Nat:=if s.e=0 then (if s.l=[] then 0 else 2) else s.e
set_option maxHeartbeats 800000 in
theorem rdend_any (g:Nat) (ok:Nat→Prop) (s:St) (w:World) (h:Rdr 142 w g ok s) :
  Calls Tryz.prog 47 #[.pointer (some ⟨g,0,none⟩)] w fun e w'=>e=.returned (.int .i64 (endS s))∧w=w':=by
 obtain ⟨a,n,c,l,hr,hi,hl,hn,ho⟩:=h
 have hc0:=hr.cell0
 have hc1:=hr.cell1
 have hnl:=hi.len.1
 rw [bI_len] at hnl
 by_cases e0:s.e=0
 ·have hl0:=hl e0
  rw [e0] at hc1
  by_cases hz:n=0
  ·have HE:=hJ (show endS s=0 by rw [endS,if_pos e0,if_pos (by rw [←hl0]; exact List.eq_nil_of_length_eq_zero (by omega))])
   subst hz
   clear hr hi hl hn hnl hl0 e0 ho
   go_enter Tryz.func47,Tryz.ntmps47
   go_wp2
   go_ret
   rw [HE.out]
   exact ⟨rfl,rfl⟩
  have HE:=hJ (show endS s=2 by rw [endS,if_pos e0,if_neg (fun e=>hz (by rw [hnl,hl0,e]; rfl))])
  have hlt:0 < n:=by omega
  clear hr hi hl hn hnl hl0 e0 ho hz
  go_enter Tryz.func47,Tryz.ntmps47
  go_wp2
  go_ret
  rw [HE.out]
  exact ⟨rfl,rfl⟩
 ·have HE:=hJ (show endS s=s.e by rw [endS,if_neg e0])
  have hne:((s.e:Int) == 0)=false:=beq_eq_false_iff_ne.2 (by omega)
  clear hr hi hl hn hnl e0 ho
  go_enter Tryz.func47,Tryz.ntmps47
  go_wp2
  go_ret
  rw [HE.out]
  exact ⟨rfl,rfl⟩
set_option maxHeartbeats 800000 in
theorem read_new (l:List UInt8) (a:Option Addr) (n c:Nat) (ok:Nat→Prop) (w:World) (hn:l.length=n) (hl:n≤100000) (h:In .u8 w ok (.slice a n c) (bI l)) :
  Calls Tryz.prog 45 #[.slice a n c] w fun e w'=>(∃ g,e=.returned (.pointer (some ⟨g,0,none⟩))∧Rdr 142 w' g (fun b=>w.heap.size≤b∧b < g) ⟨l,0⟩∧w.heap.size≤g)∧Below w.heap.size w w':=by
 have HI:=hJ h
 have HN:=hJ hn
 clear h hn
 go_enter Tryz.func45,Tryz.ntmps45
 go_wp2_with fail
 refine (clone_any l a n c ok w HN.out (by omega) HI.out).mono ?_
 rintro e w1 ⟨a1,c1,rfl,hown,hb⟩
 have hi:=In.own hown
 have hz:=hb.size
 have HH:=hJ hi
 clear hown hi
 go_wp2
 go_ret
 refine ⟨⟨w1.heap.size,rfl,?_,hz⟩,hb.alloc hz _⟩
 refine ⟨a1,_,c1,l,World.alloc_heap_new w1 _,?_,fun _=>rfl,by rw [HN.out]; exact hl,fun h=>Nat.lt_irrefl _ h.2⟩
 exact (HH.out.mono (fun b h1 h2=>⟨h2,h1⟩)).new ((Below.refl _ w1).alloc (Nat.le_refl _) _)
end Go.Proofs.YtbgfmegepekapaaGreat
