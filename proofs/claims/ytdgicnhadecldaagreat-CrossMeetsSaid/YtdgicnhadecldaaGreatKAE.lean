/- Contracts of the program's fractions: String. Conditions: as each statement has them. -/
import Derived.Test.YtdgicnhadecldaaGreatKFD
import Derived.Test.YtdgicnhadecldaaGreatKFI
import Derived.Test.YtdgicnhadecldaaGreatKB6
import Derived.Deep.DeepCutAuto
import Derived.Lib.Strings
import Derived.Lib.Slices
import Derived.Lib.Walk
import Derived.Lib.Bytealg
import Derived.Shelf.RegionOpenPlain
namespace Go.Proofs.YtdgicnhadecldaaGreat
set_option maxRecDepth 100000
set_option maxHeartbeats 12800000
/-- A fraction in lowest terms. -/
def Low (p q:Int):Prop:=0 < q∧Nat.Coprime p.natAbs q.natAbs
theorem gcd_parts (a b:Int) (h:b≠0):∃ g a' b':Int,0 < g∧((Nat.gcd a.natAbs b.natAbs:Nat):Int)=g∧a=g*a'∧b=g*b'∧Nat.Coprime a'.natAbs b'.natAbs:=by
 have hg:0 < Nat.gcd a.natAbs b.natAbs:=Nat.gcd_pos_of_pos_right _ (by omega)
 obtain ⟨a',ha⟩:((Nat.gcd a.natAbs b.natAbs:Nat):Int)∣a:=Int.ofNat_dvd_left.2 (Nat.gcd_dvd_left _ _)
 obtain ⟨b',hb⟩:((Nat.gcd a.natAbs b.natAbs:Nat):Int)∣b:=Int.ofNat_dvd_left.2 (Nat.gcd_dvd_right _ _)
 refine ⟨_,a',b',by omega,rfl,ha,hb,?_⟩
 have h1:a.natAbs / Nat.gcd a.natAbs b.natAbs=a'.natAbs:=by
  conv=>lhs; lhs; rw [ha]
  rw [Int.natAbs_mul,Int.natAbs_natCast,Nat.mul_div_cancel_left _ hg]
 have h2:b.natAbs / Nat.gcd a.natAbs b.natAbs=b'.natAbs:=by
  conv=>lhs; lhs; rw [hb]
  rw [Int.natAbs_mul,Int.natAbs_natCast,Nat.mul_div_cancel_left _ hg]
 have:=Nat.coprime_div_gcd_div_gcd hg
 rwa [h1,h2] at this
theorem mk_low (x d:Int) (hd:0 < d):Low (mkP x d) (mkQ x d)∧mkP x d*d=x*mkQ x d:=by
 obtain ⟨g,a,b,hg,e,ha,hb,hc⟩:=gcd_parts x d (by omega)
 have hD:mkD x d=g:=by unfold mkD; rw [if_neg (by omega),e]
 have hP:mkP x d=a:=by unfold mkP; rw [if_neg (by omega),hD,ha,Int.mul_ediv_cancel_left _ (by omega)]
 have hQ:mkQ x d=b:=by unfold mkQ; rw [if_neg (by omega),hD,hb,Int.mul_ediv_cancel_left _ (by omega)]
 rw [hP,hQ]
 refine ⟨⟨?_,hc⟩,?_⟩
 ·exact Int.pos_of_mul_pos_right (by rw [←hb]; exact hd) hg
 ·rw [ha,hb,Int.mul_left_comm,Int.mul_assoc]
theorem low_eq {p q p' q':Int} (h:Low p q) (h':Low p' q') (e:p*q'=p'*q):p=p'∧q=q':=by
 have en:p.natAbs*q'.natAbs=p'.natAbs*q.natAbs:=by rw [←Int.natAbs_mul,e,Int.natAbs_mul]
 have d1:q.natAbs∣q'.natAbs:=h.2.symm.dvd_of_dvd_mul_left (en ▸ Nat.dvd_mul_left _ _)
 have d2:q'.natAbs∣q.natAbs:=h'.2.symm.dvd_of_dvd_mul_left (en ▸ Nat.dvd_mul_left _ _)
 have eq:q=q':=by have:=Nat.dvd_antisymm d1 d2; have:=h.1; have:=h'.1; omega
 subst eq
 exact ⟨Int.eq_of_mul_eq_mul_right (by have:=h.1; omega) e,rfl⟩
theorem low_one (p:Int):Low p 1:=⟨by decide,by simp⟩
theorem cop_add {a b n:Nat} {x y:Int} (h:Nat.Coprime x.natAbs n) (hy:(n:Int)∣y) (_:a=b):Nat.Coprime (x+y).natAbs n:=by
 unfold Nat.Coprime at h ⊢
 have e1:Nat.gcd (x+y).natAbs n=Int.gcd (x+y) n:=rfl
 have e2:Nat.gcd x.natAbs n=Int.gcd x n:=rfl
 obtain ⟨k,rfl⟩:=hy
 rw [e1,Int.gcd_add_mul_left_left]
 rw [←e2]; exact h
theorem ad_low {p q r s:Int} (h:Low p q) (h':Low r s) (hk:adK p q r s):Low (adP p q r s) (adQ p q r s)∧adP p q r s*(q*s)=(p*s+r*q)*adQ p q r s:=by
 obtain ⟨g,a,b,hg,e,ha,hb,hc⟩:=gcd_parts q s (by have:=h'.1; omega)
 have hG:adG q s=g:=e
 have qa:q / g=a:=by rw [ha,Int.mul_ediv_cancel_left _ (by omega)]
 have sb:s / g=b:=by rw [hb,Int.mul_ediv_cancel_left _ (by omega)]
 have hN:adN p q r s=p*b+r*a:=by unfold adN; rw [hG,qa,sb]
 have hD:adD q s=a*s:=by unfold adD; rw [hG,qa]
 have a0:0 < a:=Int.pos_of_mul_pos_right (by rw [←ha]; exact h.1) hg
 have b0:0 < b:=Int.pos_of_mul_pos_right (by rw [←hb]; exact h'.1) hg
 -- the numerator has no divisor in common with a or b
 have pa:Nat.Coprime p.natAbs a.natAbs:=Nat.Coprime.coprime_dvd_right (by rw [ha,Int.natAbs_mul]; exact Nat.dvd_mul_left _ _) h.2
 have rb:Nat.Coprime r.natAbs b.natAbs:=Nat.Coprime.coprime_dvd_right (by rw [hb,Int.natAbs_mul]; exact Nat.dvd_mul_left _ _) h'.2
 have na:Nat.Coprime (p*b+r*a).natAbs a.natAbs:=by
  refine cop_add (a:=0) (b:=0) ?_ ?_ rfl
  ·rw [Int.natAbs_mul]; exact Nat.Coprime.mul_left pa hc.symm
  exact Int.dvd_trans (Int.natAbs_dvd.2 (Int.dvd_refl a)) (Int.dvd_mul_left _ _)
 have nb:Nat.Coprime (p*b+r*a).natAbs b.natAbs:=by
  rw [Int.add_comm]
  refine cop_add (a:=0) (b:=0) ?_ ?_ rfl
  ·rw [Int.natAbs_mul]; exact Nat.Coprime.mul_left rb hc
  exact Int.dvd_trans (Int.natAbs_dvd.2 (Int.dvd_refl b)) (Int.dvd_mul_left _ _)
 obtain ⟨n,hn⟩:∃ n,p*b+r*a=n:=⟨_,rfl⟩
 rw [hn] at na nb hN
 obtain ⟨k,n',g',hk0,ke,hn',hg',hc'⟩:=gcd_parts n g (by omega)
 have hH:adH p q r s=k:=by unfold adH; rw [hN,hG]; exact ke
 have g0:0 < g':=Int.pos_of_mul_pos_right (by rw [←hg']; exact hg) hk0
 have eP:adP p q r s=n':=by unfold adP; rw [if_pos hk,hN,hH,hn',Int.mul_ediv_cancel_left _ (by omega)]
 have eD:a*s=k*(a*(g'*b)):=by rw [hb,hg']; ac_rfl
 have eQ:adQ p q r s=a*(g'*b):=by unfold adQ; rw [if_pos hk,hD,hH,eD,Int.mul_ediv_cancel_left _ (by omega)]
 have dn':n'.natAbs∣n.natAbs:=by rw [hn',Int.natAbs_mul]; exact Nat.dvd_mul_left _ _
 rw [eP,eQ]
 refine ⟨⟨Int.mul_pos a0 (Int.mul_pos g0 b0),?_⟩,?_⟩
 ·rw [Int.natAbs_mul,Int.natAbs_mul]
  exact Nat.Coprime.mul_right (Nat.Coprime.coprime_dvd_left dn' na) (Nat.Coprime.mul_right hc' (Nat.Coprime.coprime_dvd_left dn' nb))
 ·have e1:p*s+r*q=g*n:=by rw [←hn,Int.mul_add,ha,hb]; ac_rfl
  rw [e1,hn']
  conv=>lhs; rw [ha,hb]
  conv=>lhs; rw [hg']
  conv=>rhs; rw [hg']
  ac_rfl
theorem mu_low {p q r s:Int} (h:Low p q) (h':Low r s) (hk:muK p q r s):Low (muP p q r s) (muQ p q r s)∧muP p q r s*(q*s)=p*r*muQ p q r s:=by
 obtain ⟨g,p',s',hg,e,hp,hs,hc⟩:=gcd_parts p s (by have:=h'.1; omega)
 obtain ⟨k,r',q',hk0,e',hr,hq,hc'⟩:=gcd_parts r q (by have:=h.1; omega)
 have s0:0 < s':=Int.pos_of_mul_pos_right (by rw [←hs]; exact h'.1) hg
 have q0:0 < q':=Int.pos_of_mul_pos_right (by rw [←hq]; exact h.1) hk0
 have hA:muA p s=g:=e
 have hB:muA r q=k:=e'
 have d1:p / g=p':=by rw [hp,Int.mul_ediv_cancel_left _ (by omega)]
 have d2:r / k=r':=by rw [hr,Int.mul_ediv_cancel_left _ (by omega)]
 have d3:q / k=q':=by rw [hq,Int.mul_ediv_cancel_left _ (by omega)]
 have d4:s / g=s':=by rw [hs,Int.mul_ediv_cancel_left _ (by omega)]
 have eP:muP p q r s=p'*r':=by unfold muP; rw [if_pos hk,muN,hA,hB,d1,d2]
 have eQ:muQ p q r s=q'*s':=by unfold muQ; rw [if_pos hk,muD,hA,hB,d3,d4]
 have dp:p'.natAbs∣p.natAbs:=by rw [hp,Int.natAbs_mul]; exact Nat.dvd_mul_left _ _
 have dq:q'.natAbs∣q.natAbs:=by rw [hq,Int.natAbs_mul]; exact Nat.dvd_mul_left _ _
 have dr:r'.natAbs∣r.natAbs:=by rw [hr,Int.natAbs_mul]; exact Nat.dvd_mul_left _ _
 have ds:s'.natAbs∣s.natAbs:=by rw [hs,Int.natAbs_mul]; exact Nat.dvd_mul_left _ _
 rw [eP,eQ]
 refine ⟨⟨Int.mul_pos q0 s0,?_⟩,?_⟩
 ·rw [Int.natAbs_mul,Int.natAbs_mul]
  exact Nat.Coprime.mul_left (Nat.Coprime.mul_right (Nat.Coprime.coprime_dvd_left dp (Nat.Coprime.coprime_dvd_right dq h.2)) hc) (Nat.Coprime.mul_right hc' (Nat.Coprime.coprime_dvd_left dr (Nat.Coprime.coprime_dvd_right ds h'.2)))
 ·conv=>lhs; rw [hq,hs]
  conv=>rhs; rw [hp,hr]
  ac_rfl
theorem mk_low' (x d:Int) (hd:d≠0):Low (mkP x d) (mkQ x d)∧mkP x d*d=x*mkQ x d:=by
 rcases Int.lt_or_gt_of_ne hd with hn | hp
 ·obtain ⟨g,a,b,hg,e,ha,hb,hc⟩:=gcd_parts x d hd
  have hD:mkD x d = -g:=by unfold mkD; rw [if_pos hn,e]
  have hP:mkP x d = -a:=by unfold mkP; rw [if_neg hd,hD,Int.ediv_neg,ha,Int.mul_ediv_cancel_left _ (by omega)]
  have hQ:mkQ x d = -b:=by unfold mkQ; rw [if_neg hd,hD,Int.ediv_neg,hb,Int.mul_ediv_cancel_left _ (by omega)]
  rw [hP,hQ]
  refine ⟨⟨?_,by rw [Int.natAbs_neg,Int.natAbs_neg]; exact hc⟩,?_⟩
  ·exact Int.pos_of_mul_pos_right (show 0 < g * -b by rw [Int.mul_neg,←hb]; omega) hg
  rw [ha,hb,Int.mul_neg,Int.neg_mul,Int.mul_left_comm,Int.mul_assoc]
 ·exact mk_low x d hp
end Go.Proofs.YtdgicnhadecldaaGreat
namespace Go.Proofs.YtdgicnhadecldaaGreat
set_option maxRecDepth 100000
set_option maxHeartbeats 12800000
open Go.RowKit
attribute [local go_sem ↓] Go.wp_at_zero Go.wp_at_succ
/-- A fraction in lowest terms and in range. -/
def Fr (p q:Int):Prop:=Low p q∧p.natAbs < lim∧q.natAbs < lim
theorem fr_zero:Fr 0 1:=⟨low_one 0,by rw [show (0:Int).natAbs=0 from rfl]; exact Nat.lt_of_le_of_lt (Nat.zero_le _) one_lim,one_lim⟩
theorem fr_mk {x d:Int} (hx:x.natAbs < lim) (hd:d.natAbs < lim):Fr (mkP x d) (mkQ x d):=by
 refine ⟨?_,mkPQ_lim hx hd⟩
 by_cases h:d=0
 ·subst h; exact low_one 0
 ·exact (mk_low' x d h).1
theorem ad_limsK {p q r s:Int}:(adP p q r s).natAbs < lim∧(adQ p q r s).natAbs < lim:=by
 unfold adP adQ
 by_cases h:adK p q r s
 ·rw [if_pos h,if_pos h]
  exact ⟨ed_lim h.2.2.1,ed_lim h.2.2.2⟩
 ·rw [if_neg h,if_neg h]
  exact ⟨by have:=one_lim; simp at this ⊢; omega,one_lim⟩
theorem fr_ad {p q r s:Int} (h:Fr p q) (h':Fr r s):Fr (adP p q r s) (adQ p q r s):=by
 refine ⟨?_,ad_limsK⟩
 by_cases hk:adK p q r s
 ·exact (ad_low h.1 h'.1 hk).1
 ·rw [show adP p q r s=0 from if_neg hk,show adQ p q r s=1 from if_neg hk]
  exact low_one 0
theorem fr_mu {p q r s:Int} (h:Fr p q) (h':Fr r s):Fr (muP p q r s) (muQ p q r s):=by
 by_cases hk:muK p q r s
 ·exact ⟨(mu_low h.1 h'.1 hk).1,by rw [show muP p q r s=muN p q r s from if_pos hk]; exact hk.1,by rw [show muQ p q r s=muD p q r s from if_pos hk]; exact hk.2⟩
 ·rw [show muP p q r s=0 from if_neg hk,show muQ p q r s=1 from if_neg hk]
  exact fr_zero
theorem fr_neg {p q:Int} (h:Fr p q):Fr (-p) q:=⟨⟨h.1.1,by rw [Int.natAbs_neg]; exact h.1.2⟩,by rw [Int.natAbs_neg]; exact h.2.1,h.2.2⟩
theorem fr_dv {p q r s:Int} (h:Fr p q) (h':Fr r s):Fr (dvP p q r s) (dvQ p q r s):=by
 by_cases hr:r=0
 ·rw [show dvP p q r s=0 from if_pos hr,show dvQ p q r s=1 from if_pos hr]
  exact fr_zero
 ·rw [show dvP p q r s=muP p q (mkP s r) (mkQ s r) from if_neg hr,show dvQ p q r s=muQ p q (mkP s r) (mkQ s r) from if_neg hr]
  exact fr_mu h (fr_mk h'.2.2 h'.2.1)
end Go.Proofs.YtdgicnhadecldaaGreat
namespace Go.Proofs.YtdgicnhadecldaaGreat
set_option maxRecDepth 100000
set_option maxHeartbeats 12800000
open Go.RowKit
attribute [local go_sem ↓] Go.wp_at_zero Go.wp_at_succ

end Go.Proofs.YtdgicnhadecldaaGreat
namespace Go.Proofs.YtdgicnhadecldaaGreat
set_option maxRecDepth 100000
set_option maxHeartbeats 12800000
open Go.RowKit
attribute [local go_sem ↓] Go.wp_at_zero Go.wp_at_succ

end Go.Proofs.YtdgicnhadecldaaGreat
namespace Go.Proofs.YtdgicnhadecldaaGreat
set_option maxRecDepth 100000
set_option maxHeartbeats 12800000
open Go.RowKit
attribute [local go_sem ↓] Go.wp_at_zero Go.wp_at_succ
theorem zero_all {okv:Value→Bool} {z:Array Value} {n:Nat} (h:z.toList.all okv=true):(Builtin.zeroCells z n).toList.all okv=true:=by
 rw [List.all_eq_true]
 intro u hu
 unfold Builtin.zeroCells at hu
 rw [Array.mem_toList_iff,Array.mem_map] at hu
 obtain ⟨j,hj,rfl⟩:=hu
 have hj':j < n*z.size:=Array.mem_range.1 hj
 have hz:0 < z.size:=by
  rcases Nat.eq_zero_or_pos z.size with e | e
  ·rw [e] at hj'; omega
  exact e
 have hm:j % z.size < z.size:=Nat.mod_lt _ hz
 rw [getElem!_pos z _ hm]
 exact List.all_eq_true.1 h _ (Array.mem_toList_iff.2 (Array.getElem_mem hm))
/-- A row of the call's own, all cells of whose block are of a sort. -/
def OwnR (okv:Value→Bool) (w:World) (base:Nat) (e:TypeId) (size:Nat) (v:Value) (n:Nat) (xs:List Value):Prop :=
 w.ownsRow base e size v n xs∧∀ g cur,v.ownBlock=some g→w.heap[g]?=some (.cells cur e (0,0))→cur.toList.all okv=true
theorem OwnR.nil (okv:Value→Bool) (w:World) (base:Nat) (e:TypeId) (size:Nat):OwnR okv w base e size (.slice none 0 0) 0 [] :=
 ⟨World.ownsRow_nil w base e size,fun g cur h _=>by simp [Value.ownBlock] at h⟩
theorem OwnR.new {okv:Value→Bool} {w w':World} {base:Nat} {e:TypeId} {size n:Nat} {v:Value} {xs:List Value} (h:OwnR okv w base e size v n xs) (hb:Below w.heap.size w w'):OwnR okv w' base e size v n xs:=by
 obtain ⟨⟨h1,h2⟩,h3⟩:=h
 refine ⟨⟨h1,?_⟩,fun g cur hg hc=>?_⟩
 ·rcases h2 with h2 | ⟨g,cap,cur,rfl,hbg,hg,rest⟩
  ·exact .inl h2
  exact .inr ⟨g,cap,cur,rfl,hbg,(hb.block g (Array.getElem?_eq_some_iff.1 hg).1).trans hg,rest⟩
 ·rcases h2 with ⟨rfl,_⟩ | ⟨g',cap,cur',rfl,hbg,hg',rest⟩
  ·simp [Value.ownBlock] at hg
  ·simp only [Value.ownBlock,Option.some.injEq] at hg
   subst hg
   exact h3 g' cur rfl ((hb.block g' (Array.getElem?_eq_some_iff.1 hg').1).symm.trans hc)
/-- The cells that the slice has. -/
theorem OwnR.row {okv:Value→Bool} {w:World} {base:Nat} {e:TypeId} {size n:Nat} {v:Value} {xs:List Value} (h:OwnR okv w base e size v n xs) (hn:0 < n):∃ g cap,v=.slice (some ⟨g,0,none⟩) n cap∧base≤g∧g < w.heap.size∧n≤cap∧∀ j u,xs[j]?=some u→w.cell? ⟨g,j,none⟩=some u:=by
 rcases h.1.2 with ⟨_,h0⟩ | ⟨g,cap,cur,rfl,h2,h3,h4,_,_,h5⟩
 ·omega
 ·refine ⟨g,cap,rfl,h2,(Array.getElem?_eq_some_iff.1 h3).1,h4,fun j u hu=>?_⟩
  rw [cell_of_row w g j cur e (0,0) h3]
  rw [←h5,List.getElem?_take] at hu
  split at hu
  ·simpa using hu
  ·cases hu
/-- Behind an append: the new slice, and what it did to the memory. -/
def Grew (okv:Value→Bool) (w:World) (v:Value) (xs:List Value) (w':World):Prop:=w.grownBy w' v.ownBlock∧(∀ g,v.ownBlock=some g→∀ o u,w.cell? ⟨g,o,none⟩=some u→okv u=true)∧∀ g,v.ownBlock=some g→∀ j u,xs[j]?=some u→w'.cell? ⟨g,j,none⟩=some u
theorem Grew.below {okv:Value→Bool} {a w w':World} {B base:Nat} {e:TypeId} {size n:Nat} {v:Value} {xs:List Value} (h:Below B a w) (hg:Grew okv w v xs w') (ho:OwnR okv w base e size v n xs) (hB:B≤base) (hs:B≤w.heap.size):Below B a w' :=
 h.grown hg.1 hs (fun k hk=>Nat.le_trans hB (ho.1.lt k hk).1)
theorem LO.grow {k:IntKind} {ok:Nat→Prop} {w w':World} {v sv:Value} {ys:List Value} {l:List Nat} {okv:Value→Bool} (h:LO k ok w v l) (hg:Grew okv w sv ys w') (hn:∀ x,okv (.int k x)=false):LO k ok w' v l :=
 h.apart (tt:=fun g=>sv.ownBlock=some g) ((Kp.refl _ w).grown hg.1 (fun g e _=>e)) (fun g e _ o x hc=>by have:=hg.2.1 g e o _ hc; rw [hn x] at this; cases this)
theorem PIo.grow {ok:Nat→Prop} {w w':World} {s:Bool} {A:Option Addr} {n c:Nat} {x:Int} {sv:Value} {ys:List Value} {okv:Value→Bool} (h:PIo ok w s A n c x) (hg:Grew okv w sv ys w') (hn:∀ x,okv (.int .u32 x)=false):PIo ok w' s A n c x:=⟨h.1,h.2.1,h.2.2.grow hg hn⟩
theorem PF.grow {w w':World} {s s':Bool} {A A':Option Addr} {n c n' c':Nat} {p q:Int} {sv:Value} {ys:List Value} {okv:Value→Bool} (h:PF w s A n c s' A' n' c' p q) (hg:Grew okv w sv ys w') (hn:∀ x,okv (.int .u32 x)=false):PF w' s A n c s' A' n' c' p q:=⟨PIo.grow h.1 hg hn,PIo.grow h.2 hg hn⟩
theorem BX.grow {t:TypeId} {w w':World} {b:Nat} {cs:Array Value} {sv:Value} {ys:List Value} {okv:Value→Bool} (h:BX t w b cs) (hg:Grew okv w sv ys w') (hn:sv.ownBlock≠some b):BX t w' b cs:=(hg.1.block b h.lt (fun e=>hn e.symm)).trans h
theorem run_append_okv {P:Program} (okv:Value→Bool) (w:World) (base:Nat) (t ty e:TypeId) (i:TypeInfo) (z:Value) (size bytes:Nat) (ht:P.underlying t=some (.slice e)) (hi:P.info? e=some i) (hz:i.zero=some z)
  (hsize:i.size=size) (hby:i.bytes=bytes) (hzs:z.cells.size=size) (hzo:z.cells.toList.all okv=true) (hsz:0 < size)
  (v:Value) (n:Nat) (xs:List Value) (hown:OwnR okv w base e size v n xs)
  (a:Addr) (m c:Nat) (news:List Value) (hl:news.length=m*size) (hnews:∀ j u,news[j]?=some u→w.cell? (a.add j)=some u) (h1:∀ u ∈ news,u.oneCell'=true) (hno:news.all okv=true)
  (h63:n+m≤maxLen) (hbytes:(n+m)*bytes≤140737488355328) (hbase:base≤w.heap.size) (hm:0 < m) :
  ∃ v' w',(Builtin.append_ #[t,t] ty #[v,.slice (some a) m c]).run P w=.ok v' w'∧OwnR okv w' base e size v' (n+m) (xs ++ news)∧Grew okv w v xs w':=by
 obtain ⟨v',w',hr,h2,h3,h4⟩:=run_append_own (P:=P) w base t ty e i z size bytes ht hi hz hsize hby hzs hsz v n xs hown.1 a m c news hl hnews h1 h63 hbytes hbase
 have hgr:(∀ g,v.ownBlock=some g→∀ j u,xs[j]?=some u→w'.cell? ⟨g,j,none⟩=some u)→Grew okv w v xs w':=by
  intro hkeep
  refine ⟨h3,fun g hg o u hu=>?_,hkeep⟩
  rcases hown.1.2 with ⟨rfl,_⟩ | ⟨g',cap,cur,rfl,_,hgg,_⟩
  ·simp [Value.ownBlock] at hg
  simp only [Value.ownBlock,Option.some.injEq] at hg
  subst hg
  rw [cell_of_row w g' o cur e (0,0) hgg] at hu
  exact List.all_eq_true.1 (hown.2 g' cur rfl hgg) u (Array.mem_toList_iff.2 (Array.mem_of_getElem? hu))
 have hxl:∀ j u,xs[j]?=some u→j < n*size:=by
  intro j u hu
  have:=(List.getElem?_eq_some_iff.1 hu).1
  rw [hown.1.1] at this
  exact this
 have holdc:∀ g,v.ownBlock=some g→∀ j u,xs[j]?=some u→w.cell? ⟨g,j,none⟩=some u:=by
  intro g hg j u hu
  have:=hown.1.cells (g:=g) hg j u hu
  rwa [Go.WideShapes.add_plain,Nat.zero_add] at this
 suffices hmain:(∀ g cur,v'.ownBlock=some g→w'.heap[g]?=some (.cells cur e (0,0))→cur.toList.all okv=true)∧∀ g,v.ownBlock=some g→∀ j u,xs[j]?=some u→w'.cell? ⟨g,j,none⟩=some u from ⟨v',w',hr,⟨h2,hmain.1⟩,hgr hmain.2⟩
 subst hsize
 have hsmall:n+m≤9223372036854775807:=by simp only [maxLen] at h63; omega
 have hxo:∀ g' cap cur,v=.slice (some ⟨g',0,none⟩) n cap→w.heap[g']?=some (.cells cur e (0,0))→cur.toList.take (n*i.size)=xs→xs.all okv=true:=by
  intro g' cap cur hv hgg ht'
  rw [←ht',List.all_eq_true]
  intro u hu
  exact List.all_eq_true.1 (hown.2 g' cur (by rw [hv]; rfl) hgg) u (List.mem_of_mem_take hu)
 rcases hown.1.2 with ⟨rfl,rfl⟩ | ⟨g',cap,cur',rfl,hbg,hgg,hnc,hcm,hcs,htake⟩
 ·have hx:xs=[]:=List.eq_nil_of_length_eq_zero (by simpa using hown.1.1)
  subst hx
  have hr2:=run_append_nil (P:=P) w t ty e i z ht hi hz a m c news hl hnews hm (by omega) (by rw [hby]; have hb:=hbytes; simp only [Nat.zero_add] at hb; omega)
  rw [hr2] at hr
  injection hr with e1 e2
  subst e1 e2
  refine ⟨fun g cur hg hc=>?_,fun g hg=>by simp [Value.ownBlock] at hg⟩
  simp only [Value.ownBlock,Option.some.injEq] at hg
  subst hg
  rw [show (w.drew.alloc (.cells (news.toArray ++ Builtin.zeroCells z.cells (grownCap w m 0 e - m)) e)).heap[w.heap.size]?=_ from heap_alloc_new w.drew _] at hc
  injection hc with hc
  injection hc with hc
  subst hc
  rw [Array.toList_append,List.all_append,hno,zero_all hzo]
  rfl
 ·by_cases hroom:n+m≤cap
  ·have hfit:n*i.size+news.length≤cur'.size:=by rw [hl,hcs,←Nat.add_mul]; exact Nat.mul_le_mul_right _ hroom
   have hr2:=run_append_room (P:=P) w t ty e i ht hi g' n cap cur' hgg a m c news hl hnews h1 hroom hfit
   rw [hr2] at hr
   injection hr with e1 e2
   subst e1 e2
   refine ⟨fun g cur hg hc=>?_,fun g hg j u hu=>?_⟩
   rotate_left
   ·simp only [Value.ownBlock,Option.some.injEq] at hg
    subst hg
    have hj:=hxl j u hu
    have hjc:j < cur'.size:=by rw [hcs]; exact Nat.lt_of_lt_of_le hj (Nat.mul_le_mul_right _ hnc)
    rw [cell_setRow_same w g' j cur' _ e _ hgg]
    rw [←htake] at hu
    rw [List.getElem?_toArray,List.append_assoc,List.getElem?_append_left (by rw [List.length_take,Array.length_toList]; omega)]
    exact hu
   simp only [Value.ownBlock,Option.some.injEq] at hg
   subst hg
   rw [setRow_heap w g' cur' _ e _ hgg] at hc
   injection hc with hc
   injection hc with hc
   subst hc
   have hall:=hown.2 g' cur' rfl hgg
   rw [List.all_append,List.all_append,hno]
   have q1:(cur'.toList.take (n*i.size)).all okv=true:=List.all_eq_true.2 fun u hu=>List.all_eq_true.1 hall u (List.mem_of_mem_take hu)
   have q2:(cur'.toList.drop (n*i.size+news.length)).all okv=true:=List.all_eq_true.2 fun u hu=>List.all_eq_true.1 hall u (List.mem_of_mem_drop hu)
   rw [q1,q2]
   rfl
  ·have holds:∀ j u,xs[j]?=some u→w.cell? ((⟨g',0,none⟩:Addr).add j)=some u:=hown.1.cells (g:=g') rfl
   have hr2:=run_append_grow (P:=P) w t ty e i z ht hi hz ⟨g',0,none⟩ n cap xs hown.1.1 holds a m c news hl hnews (by omega) (by omega) (growslice_fits (by omega) (by rw [hby]; exact hbytes))
   rw [hr2] at hr
   injection hr with e1 e2
   subst e1 e2
   refine ⟨fun g cur hg hc=>?_,fun g hg j u hu=>?_⟩
   rotate_left
   ·have h0:=holdc g hg j u hu
    exact (World.cell?_of_block (heap_alloc_old w.drew _ (World.block_lt_of_cell? w _ h0))).trans h0
   simp only [Value.ownBlock,Option.some.injEq] at hg
   subst hg
   rw [show (w.drew.alloc (.cells (xs.toArray ++ news.toArray ++ Builtin.zeroCells z.cells (grownCap w (n+m) cap e - (n+m))) e)).heap[w.heap.size]?=_ from heap_alloc_new w.drew _] at hc
   injection hc with hc
   injection hc with hc
   subst hc
   rw [Array.toList_append,Array.toList_append,List.all_append,List.all_append,hno,zero_all hzo,hxo g' cap cur' rfl hgg htake]
   rfl
/-- The cells of a block, as the source of an append. -/
theorem BX.news {t:TypeId} {w:World} {b:Nat} {cs:Array Value} (h:BX t w b cs):∀ j u,cs.toList[j]?=some u→w.cell? ((⟨b,0,none⟩:Addr).add j)=some u:=by
 intro j u hu
 rw [Go.WideShapes.add_plain,Nat.zero_add]
 exact h.cell j (by simpa using hu)
theorem OwnR.at {okv:Value→Bool} {w:World} {base:Nat} {e:TypeId} {size n g cap:Nat} {xs:List Value} (h:OwnR okv w base e size (.slice (some ⟨g,0,none⟩) n cap) n xs) (j:Nat) {u:Value} (hu:xs[j]?=some u):w.cell? ⟨g,j,none⟩=some u:=by
 have:=h.1.cells (g:=g) rfl j u hu
 rwa [Go.WideShapes.add_plain,Nat.zero_add] at this
end Go.Proofs.YtdgicnhadecldaaGreat
