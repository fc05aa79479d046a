/- Mathematics of the law PointBytes: what is decoded is encoded to the same bytes. No walk. -/
import Derived.Test.YtbgfmegepekapaaGreatAE
import Derived.Test.YtbgfmegepekapaaGreatB2
import Derived.Test.YtbgfmegepekapaaGreatB5
import Derived.Test.YtbgfmegepekapaaGreatB6
import Derived.Test.YtbgfmegepekapaaGreatFD
import Derived.Test.YtbgfmegepekapaaGreatFI
import Derived.Test.YtbgfmegepekapaaGreatGD
import Derived.Test.YtbgfmegepekapaaGreatGM
import Derived.Test.YtbgfmegepekapaaGreatGN
import Derived.Test.YtbgfmegepekapaaGreatGP
import Derived.Test.YtbgfmegepekapaaGreatGR
import Derived.Test.YtbgfmegepekapaaGreatQL
import Derived.Test.YtbgfmegepekapaaGreatWE
import Derived.Test.YtbgfmegepekapaaGreatWT
namespace Go.Proofs.YtbgfmegepekapaaGreat
open Go.RowKit
set_option linter.unusedVariables false
set_option linter.unusedSimpArgs false
theorem fq_textb {p q:Int} (h:Fr p q):fqP (fracT p q)=p∧fqQ (fracT p q)=q∧fqC (fracT p q)=0:=by
 obtain ⟨h1,h2,h3⟩:=h
 have e1:=ps_decI (lim_big h2)
 rw [in_lim h2 |>.1,in_lim h2 |>.2] at e1
 have e2:=ps_decI (lim_big h3)
 rw [in_lim h3 |>.1,in_lim h3 |>.2] at e2
 unfold fracT
 split
 ·rename_i hq
  obtain ⟨g1,g2,g3⟩:=fq_no (dec_slash p)
  rw [g1,g2,g3,if_pos e1.2,if_pos e1.2,e1.1,hq]
  exact ⟨rfl,rfl,rfl⟩
 ·rename_i hq
  obtain ⟨g1,g2,g3⟩:=fq_good (b:=decI q) (dec_slash p) ⟨e1.2,e2.2,by rw [e2.1]; exact h1.1,by rw [e2.1]; exact hq,by rw [e1.1,e2.1]; exact h1.2⟩
  rw [g1,g2,g3,e1.1,e2.1]
  exact ⟨rfl,rfl,rfl⟩
/-- What parses is the text of what it is parsed to. -/
theorem fq_back {l:List UInt8} (h:fqC l=0):fracT (fqP l) (fqQ l)=l:=by
 rcases slash_cases l with hn | ⟨a,b,rfl,hn⟩
 ·obtain ⟨e1,e2,e3⟩:=fq_no hn
  have hp:psC l=0:=by
   rw [e3] at h
   by_cases hc:psC l=0
   ·exact hc
   rw [if_neg hc] at h; exact absurd h (by decide)
  rw [e1,e2,if_pos hp]
  unfold fracT
  rw [if_pos rfl]
  exact ps_back l hp
 ·by_cases hk:fpK a b
  ·obtain ⟨e1,e2,_⟩:=fq_good hn hk
   rw [e1,e2]
   unfold fracT
   rw [if_neg hk.2.2.2.1,ps_back a hk.1,ps_back b hk.2.1]
  ·obtain ⟨_,_,e3⟩:=fq_bad hn hk
   rw [e3] at h
   exact absurd h (by decide)
theorem fracT_len21 {p q:Int} (hp:p.natAbs < 1000000000) (hq:q.natAbs < 1000000000):1≤(fracT p q).length∧(fracT p q).length≤21:=by
 have h1:=decI_len9 hp
 have h2:=decI_len9 hq
 have h3:1≤(decI p).length:=by
  unfold decI
  split
  ·simp
  have:=dec_ne p.natAbs
  rcases hd:dec p.natAbs with _ | ⟨c,r⟩
  ·exact absurd hd this
  simp
 unfold fracT
 split
 ·omega
 ·simp; omega
theorem rawE_len (l:List UInt8) (h:l.length≤1000):l.length+1≤(rawE l).length∧(rawE l).length≤l.length+10:=by
 have h1:=uv_len10 (n:=l.length) (by omega)
 have h2:1≤(uv l.length).length:=by
  rcases Nat.lt_or_ge l.length 128 with g | g
  ·rw [uv_lt g]; simp
  rw [uv_ge g]; simp
 unfold rawE
 rw [List.length_append]
 omega
/-- The bytes of a point of small numbers. -/
theorem enc_len {p q u v:Int} (hp:p.natAbs < 1000000000) (hq:q.natAbs < 1000000000) (hu:u.natAbs < 1000000000) (hv:v.natAbs < 1000000000):1≤(encP p q u v).length∧(encP p q u v).length≤62:=by
 have h1:=fracT_len21 hp hq
 have h2:=fracT_len21 hu hv
 have h3:=rawE_len (fracT p q) (by omega)
 have h4:=rawE_len (fracT u v) (by omega)
 unfold encP
 rw [List.length_append]
 omega
/-- An encoding leads back. -/
theorem dec_enc {p q u v:Int} (h1:Fr p q) (h2:Fr u v) (hl1:(fracT p q).length≤1000) (hl2:(fracT u v).length≤1000):dcE (encP p q u v)=0∧(dcP1 (encP p q u v)=p∧dcQ1 (encP p q u v)=q)∧dcP2 (encP p q u v)=u∧dcQ2 (encP p q u v)=v:=by
 have e1:partS ⟨encP p q u v,0⟩=(fracT p q,⟨rawE (fracT u v),0⟩):=partS_rt (fracT p q) (rawE (fracT u v)) (by omega)
 have e2:partS ⟨rawE (fracT u v),0⟩=(fracT u v,⟨[],0⟩):=by
  have e:=partS_rt (fracT u v) [] (by omega)
  rw [List.append_nil] at e
  exact e
 have a1:dL1 (encP p q u v)=fracT p q:=by unfold dL1; rw [e1]
 have a2:dS1 (encP p q u v)=⟨rawE (fracT u v),0⟩:=by unfold dS1; rw [e1]
 have a3:dL2 (encP p q u v)=fracT u v:=by unfold dL2; rw [a2,e2]
 have a4:dS2 (encP p q u v)=⟨[],0⟩:=by unfold dS2; rw [a2,e2]
 obtain ⟨f1,f2,f3⟩:=fq_textb h1
 obtain ⟨g1,g2,g3⟩:=fq_textb h2
 have hE:dcE (encP p q u v)=0:=by
  unfold dcE
  rw [a4,a1,a3,f3,g3]
  rfl
 unfold dcP1 dcQ1 dcP2 dcQ2
 rw [hE,a1,a3,f1,f2,g1,g2]
 exact ⟨rfl,⟨rfl,rfl⟩,rfl,rfl⟩
/-- What is decoded is encoded to the same bytes, and its texts are no longer than these. -/
theorem enc_dec {bs:List UInt8} (h:dcE bs=0):encP (dcP1 bs) (dcQ1 bs) (dcP2 bs) (dcQ2 bs)=bs∧(fracT (dcP1 bs) (dcQ1 bs)).length≤bs.length∧(fracT (dcP2 bs) (dcQ2 bs)).length≤bs.length:=by
 have h0:endS (dS2 bs)=0∧fqC (dL1 bs)=0∧fqC (dL2 bs)=0:=by
  unfold dcE e2 at h
  split at h
  ·rename_i h1
   split at h
   ·rename_i h2; exact ⟨h1,h2,h⟩
   rename_i h2; exact absurd h h2
  exact absurd h (by decide)
 obtain ⟨h1,h2,h3⟩:=h0
 have hs2:dS2 bs=⟨[],0⟩:=by
  rcases hd:dS2 bs with ⟨l,e⟩
  rw [hd] at h1
  unfold endS at h1
  by_cases he:e=0
  ·subst he
   simp only [if_true] at h1
   by_cases hl:l=[]
   ·rw [hl]
   rw [if_neg hl] at h1; exact absurd h1 (by decide)
  rw [if_neg he] at h1; exact absurd h1 he
 have p2:partS (dS1 bs)=(dL2 bs,⟨[],0⟩):=by rw [←hs2]; rfl
 obtain ⟨k1,k2⟩:=partS_one p2
 have hs1:dS1 bs=⟨rawE (dL2 bs),0⟩:=by
  rcases hd:dS1 bs with ⟨l,e⟩
  rw [hd] at k1 k2
  simp only [List.append_nil] at k1 k2
  rw [k1,k2]
  rfl
 have p1:partS ⟨bs,0⟩=(dL1 bs,⟨rawE (dL2 bs),0⟩):=by rw [←hs1]; rfl
 obtain ⟨_,k4⟩:=partS_one p1
 have hb:bs=rawE (dL1 bs) ++ rawE (dL2 bs):=k4
 have q1:fracT (dcP1 bs) (dcQ1 bs)=dL1 bs:=by
  unfold dcP1 dcQ1
  rw [h,sl_z,sl_z]
  exact fq_back h2
 have q2:fracT (dcP2 bs) (dcQ2 bs)=dL2 bs:=by
  unfold dcP2 dcQ2
  rw [h,sl_z,sl_z]
  exact fq_back h3
 have hlen:=congrArg List.length hb
 unfold rawE at hlen
 simp only [List.length_append] at hlen
 refine ⟨?_,?_,?_⟩
 ·unfold encP; rw [q1,q2]; exact hb.symm
 ·rw [q1]; omega
 ·rw [q2]; omega
theorem sl_fr {e p q:Int} (h:Fr p q):Fr (sl e p 0) (sl e q 1):=by
 unfold sl
 by_cases he:e=0
 ·rw [if_pos he,if_pos he]; exact h
 ·rw [if_neg he,if_neg he]; exact fr_zero
theorem dc_fr (bs:List UInt8):Fr (dcP1 bs) (dcQ1 bs)∧Fr (dcP2 bs) (dcQ2 bs):=⟨sl_fr (fq_fr _),sl_fr (fq_fr _)⟩
theorem pc_self (p q u v:Int):pcV p q u v p q u v=0:=by
 have h:∀ a:Int,cmpI a a=0:=by intro a; unfold cmpI; rw [if_neg (by omega),if_neg (by omega)]
 unfold pcV
 rw [h,if_pos rfl,h]
/-- A point made from a number of the reference's. -/
theorem sm_frs {X Y D:Int} (h:Sm X Y D):((Fr (mkP X D) (mkQ X D)∧Fr (mkP Y D) (mkQ Y D))∧((mkP X D).natAbs < 1000000000∧(mkQ X D).natAbs < 1000000000)∧(mkP Y D).natAbs < 1000000000∧(mkQ Y D).natAbs < 1000000000)∧((Lit.int .i64 X).wf=true∧(Lit.int .i64 Y).wf=true∧(Lit.int .i64 D).wf=true):=by
 obtain ⟨⟨d1,d2⟩,⟨x1,x2⟩,⟨y1,y2⟩,_⟩:=h
 have wx:(Lit.int .i64 X).wf=true:=WalkArith.wf_i64 (by omega)
 have wy:(Lit.int .i64 Y).wf=true:=WalkArith.wf_i64 (by omega)
 have wd:(Lit.int .i64 D).wf=true:=WalkArith.wf_i64 (by omega)
 have hm:∀ x d:Int,0 < d→(mkP x d).natAbs≤x.natAbs∧(mkQ x d).natAbs≤d.natAbs:=by
  intro x d hd
  unfold mkP mkQ
  rw [if_neg (by omega),if_neg (by omega)]
  exact ⟨Int.natAbs_ediv_le_natAbs _ _,Int.natAbs_ediv_le_natAbs _ _⟩
 have m1:=hm X D d1
 have m2:=hm Y D d1
 exact ⟨⟨⟨fr_mk (i64_lim wx) (i64_lim wd),fr_mk (i64_lim wy) (i64_lim wd)⟩,⟨by omega,by omega⟩,by omega,by omega⟩,wx,wy,wd⟩
theorem bytesJ {ls:List Int}:(∀ x ∈ ls,(Lit.int .u8 x).wf=true)→∃ l:List UInt8,bI l=ls:=by
 induction ls with
 | nil=>exact fun _=>⟨[],rfl⟩
 | cons x ls ih =>
  intro h
  obtain ⟨l,hl⟩:=ih (fun y hy=>h y (List.mem_cons_of_mem _ hy))
  have hx:=h x (by simp)
  have hb:0≤x∧x≤255:=by simpa [Lit.wf,IntKind.min,IntKind.max,IntKind.signed,IntKind.bits] using hx
  refine ⟨UInt8.ofNat x.toNat :: l,?_⟩
  have e:((UInt8.ofNat x.toNat).toNat:Int)=x:=by rw [UInt8.toNat_ofNat']; omega
  show ((UInt8.ofNat x.toNat).toNat:Int) :: bI l=x :: ls
  rw [e,hl]
theorem byteJ {v:Int} (h:(Lit.int .u8 v).wf=true):∃ c:UInt8,v=(c.toNat:Int):=by
 have hb:0≤v∧v≤255:=by simpa [Lit.wf,IntKind.min,IntKind.max,IntKind.signed,IntKind.bits] using h
 refine ⟨UInt8.ofNat v.toNat,?_⟩
 rw [UInt8.toNat_ofNat']
 omega
theorem vs_setb (X:List UInt8) (k:Nat) (c:UInt8):(vs .u8 (bI X)).set k (.int .u8 (c.toNat:Int))=vs .u8 (bI (X.set k c)):=by simp [vs,bI,List.map_set]
theorem vs_snocb (X:List UInt8) (c:UInt8):vs .u8 (bI X) ++ [.int .u8 (c.toNat:Int)]=vs .u8 (bI (X ++ [c])):=by simp [vs,bI]
theorem bI_takeb (X:List UInt8) (k:Nat):(bI X).take k=bI (X.take k):=by simp [bI,List.map_take]
/-- A value of any sort. -/
def anyV:Value→Bool:=fun _=>true
theorem own_any {w:World} {base:Nat} {e:TypeId} {size n:Nat} {v:Value} {xs:List Value} (h:w.ownsRow base e size v n xs):OwnR anyV w base e size v n xs:=⟨h,fun g cur _ _=>List.all_eq_true.2 (fun _ _=>rfl)⟩
end Go.Proofs.YtbgfmegepekapaaGreat
