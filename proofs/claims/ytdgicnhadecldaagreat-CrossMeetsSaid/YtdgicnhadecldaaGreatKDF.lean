/- The reference's Put. Conditions: as each statement has them. -/
import Derived.Laws.AppendOwn
import Derived.Laws.AppendOwnNone
import Derived.Deep.MidRow
import Derived.Test.YtdgicnhadecldaaGreatKAE
import Derived.Test.YtdgicnhadecldaaGreatKB2
import Derived.Test.YtdgicnhadecldaaGreatKB5
import Derived.Test.YtdgicnhadecldaaGreatKCH
import Derived.Test.YtdgicnhadecldaaGreatKCP
import Derived.Test.YtdgicnhadecldaaGreatKCY
import Derived.Test.YtdgicnhadecldaaGreatKFD
import Derived.Test.YtdgicnhadecldaaGreatKYA
namespace Go.Proofs.YtdgicnhadecldaaGreat
open Go.RowKit
attribute [local go_sem ↓] Go.wp_at_zero Go.wp_at_succ
set_option linter.unusedVariables false
set_option linter.unusedSimpArgs false
def RowT (B:Nat) (w:World) (v:Value) (L:List Tr):Prop:=w.ownsRow B 47 3 v L.length (p3V L)
theorem p3V_len (L:List Tr):(p3V L).length=L.length*3:=by
 induction L with
 | nil=>rfl
 | cons q l ih=>show (p3V l).length+1+1+1=(l.length+1)*3; omega
theorem p3V_app (L M:List Tr):p3V (L ++ M)=p3V L ++ p3V M:=by
 induction L with
 | nil=>rfl
 | cons q l ih=>show _ :: _ :: _ :: p3V (l ++ M)=_; rw [ih]; rfl
theorem p3V_one (L:List Tr):∀ u ∈ p3V L,u.oneCell'=true:=by
 induction L with
 | nil=>intro u hu; cases hu
 | cons q l ih =>
  intro u hu
  rcases List.mem_cons.1 hu with rfl | hu
  ·rfl
  ·rcases List.mem_cons.1 hu with rfl | hu
   ·rfl
   ·rcases List.mem_cons.1 hu with rfl | hu
    ·rfl
    ·exact ih u hu
theorem tr_info:(Tryz.prog.info? 47).map (fun i=>(i.zero,i.size,i.bytes))=some (some (.agg #[.int .i64 0,.int .i64 0,.int .i64 0]),3,24):=by kernel_rfl
theorem step_append_own7 {P:Program} {ops:Array Oper} {o:Oper} {a:Act} {w:World} {K:Act→World→Prop} {Q:Exit→Act→World→Prop} {E:Prop} (hg:o.guard=none) (s x:Operand) (t:TypeId)
  (ho:o.op=.call { callee:=.builtin .append,args:=#[s,x],argTypes:=#[t,t] })
  (base:Nat) (e:TypeId) (i:TypeInfo) (z:Value) (size bytes:Nat) (ht:P.underlying t=some (.slice e)) (hi:P.info? e=some i) (hz:i.zero=some z)
  (hsize:i.size=size) (hby:i.bytes=bytes) (hzs:z.cells.size=size) (hsz:0 < size)
  (v:Value) (n:Nat) (xs:List Value) (hs:a.eval s=v) (hown:w.ownsRow base e size v n xs)
  (ad:Addr) (m c:Nat) (news:List Value) (hx:a.eval x=.slice (some ad) m c) (hl:news.length=m*size) (hnews:∀ j u,news[j]?=some u→w.cell? (ad.add j)=some u) (h1:∀ u ∈ news,u.oneCell'=true)
  (h63:n+m≤maxLen) (hbytes:(n+m)*bytes≤140737488355328) (hbase:base≤w.heap.size)
  (h:∀ v' w',w'.ownsRow base e size v' (n+m) (xs ++ news)→w.grownBy w' v.ownBlock→K (a.put o.dst v') w') :
  if Region.wanted o (yielded ops a.tmps)=true then Oper.wp P o a w K Q else E:=by
 have hw:Region.wanted o (yielded ops a.tmps)=true:=by simp [Region.wanted,hg]
 rw [if_pos hw]
 exact wp_append_own w s x t ho base e i z size bytes ht hi hz hsize hby hzs hsz v n xs hs hown ad m c news hx hl hnews h1 h63 hbytes hbase (fun v' w' g1 g2 _=>h v' w' g1 g2)
theorem own7_new {w w':World} {base:Nat} {e:TypeId} {size n:Nat} {v:Value} {xs:List Value} (h:w.ownsRow base e size v n xs) (hb:Below w.heap.size w w'):w'.ownsRow base e size v n xs:=by
 obtain ⟨h1,h2⟩:=h
 refine ⟨h1,?_⟩
 rcases h2 with h2 | ⟨g,cap,cur,rfl,hbg,hg,rest⟩
 ·exact .inl h2
 ·exact .inr ⟨g,cap,cur,rfl,hbg,(hb.block g (Array.getElem?_eq_some_iff.1 hg).1).trans hg,rest⟩
theorem own7_mono {w:World} {base base':Nat} {e:TypeId} {size n:Nat} {v:Value} {xs:List Value} (h:w.ownsRow base e size v n xs) (hb:base'≤base):w.ownsRow base' e size v n xs:=by
 obtain ⟨h1,h2⟩:=h
 refine ⟨h1,?_⟩
 rcases h2 with h2 | ⟨g,cap,cur,rfl,hbg,rest⟩
 ·exact .inl h2
 exact .inr ⟨g,cap,cur,rfl,Nat.le_trans hb hbg,rest⟩
noncomputable def putB:Code:=(Tryz.f62.body).getD .skip
set_option maxRecDepth 100000 in
set_option maxHeartbeats 12800000 in
theorem put_tB {z1 z2 z4 z6 z7 z8 z9 z10 z11 z12 z13 z14 z15 z16 z17 z18 z19 z20 z21 z22 z23 z24 z25 z26 z27 z28 z29 z30 z31 z32 z33 z34 z35 z36 z37 z38 z39 z40 z41 z42 z43 z44 z45 z46 z47:Value} (L:List Tr) (X Y D:Int) (k n cap g b:Nat) (w0 w:World) (HB:Hid (BX 47 w b #[.int .i64 X,.int .i64 Y,.int .i64 D])) (hn:L.length=n) (hn2:n≤1000) (hk:k≤n) (hc:n≤cap) (HC:Hid (∀ j u,(p3V L)[j]?=some u→w.cell? ⟨g,j,none⟩=some u)) (hgl:g < w.heap.size) (aD:Hid (Below w0.heap.size w0 w)) (R:Ending→World→Prop) (hR:∀ v' w',RowT w0.heap.size w' v' (L.take k ++ (X,Y,D) :: L.drop k)→Below w0.heap.size w0 w'→R (.returned v') w')
  (K:Act→World→Prop) (hK:∀ a w,Code.wp Tryz.prog (sqP 5 putB) (bodyPost Tryz.prog Tryz.f62 R) a w→K a w) :
  Code.wp Tryz.prog (fsP (sqP 4 putB)) (Exit.then K (bodyPost Tryz.prog Tryz.f62 R)) ⟨((.slice (some ⟨g,0,none⟩) n cap:Value) :: z1 :: z2 :: (.pointer (some ⟨b,0,none⟩):Value) :: z4 :: (.int .i64 (k:Int):Value) :: z6 :: z7 :: z8 :: z9 :: z10 :: z11 :: z12 :: z13 :: z14 :: z15 :: z16 :: z17 :: z18 :: z19 :: z20 :: z21 :: z22 :: z23 :: z24 :: z25 :: z26 :: z27 :: z28 :: z29 :: z30 :: z31 :: z32 :: z33 :: z34 :: z35 :: z36 :: z37 :: z38 :: z39 :: z40 :: z41 :: z42 :: z43 :: z44 :: z45 :: z46 :: z47 :: []).toArray,[]⟩ w:=by
 conv=>arg 2; whnf
 conv at hK=>intro a w; arg 1; arg 2; whnf
 obtain ⟨i0,hi,hz0,hz1,hz2⟩:=info_parts tr_info
 have hki:(0:Int)≤(k:Int):=by omega
 have hkc:(k:Int)≤(cap:Int):=by omega
 go_wp2_with fail
 have HS:Hid (∀ w',Below w.heap.size w w'→(fun w':World=>w'.cell? ⟨b,0,none⟩=some (.int .i64 X)∧w'.cell? ⟨b,1,none⟩=some (.int .i64 Y)∧w'.cell? ⟨b,2,none⟩=some (.int .i64 D)∧Below w.heap.size w w') w'):=hJ (fun w' hb=>⟨(BX.new HB.out hb).cell 0 rfl,(BX.new HB.out hb).cell 1 rfl,(BX.new HB.out hb).cell 2 rfl,hb⟩)
 obtain ⟨v1,hv1⟩:=nmz (World.drew w)
 have aL:=hJ (show Below w.heap.size w v1 by rw [←hv1]; exact (Below.refl _ _).drew)
 refine wp_region_held_drew (S:=(fun w':World=>w'.cell? ⟨b,0,none⟩=some (.int .i64 X)∧w'.cell? ⟨b,1,none⟩=some (.int .i64 Y)∧w'.cell? ⟨b,2,none⟩=some (.int .i64 D)∧Below w.heap.size w w')) (by kernel_rfl) ?_ (fun hHeld=>?_)
 ·rw [hv1]
  exact HS.out _ aL.out
 rw [hv1] at hHeld ⊢
 clear hv1
 refine tq 0 ?_
 refine tq 1 ?_
 refine tq 2 ?_
 try simp only [PT]
 refine tk 3 (.slice (some ⟨g,0,none⟩) k cap) ?_ ?_
 ·intro w hSw
  (try dsimp only at hSw)
  go_simp
 try simp only [PT]
 refine tk 5 (.agg #[.int .i64 X,.int .i64 Y,.int .i64 D]) ?_ ?_
 ·intro w hSw
  (try dsimp only at hSw)
  go_simp
 try simp only [PT]
 have tk1:∀ m,(p3V (L.take m)).length=(L.take m).length*3:=fun m=>p3V_len _
 have hlk:(L.take k).length=k:=by rw [List.length_take]; omega
 have hld:(L.drop k).length=n - k:=by rw [List.length_drop]; omega
 have hcut:p3V L=p3V (L.take k) ++ p3V (L.drop k):=by rw [←p3V_app,List.take_append_drop]
 have aR:=hJ (show ∀ w',Below w.heap.size w w'→∀ j u,(p3V (L.take k))[j]?=some u→w'.cell? ((⟨g,0,none⟩:Addr).add j)=some u from fun w' hb j u hu=>by
  have:(p3V L)[j]?=some u:=by rw [hcut,List.getElem?_append_left ((List.getElem?_eq_some_iff.1 hu).1)]; exact hu
  rw [Addr.add_mid,hb.cell (p:=⟨g,0+j,none⟩) hgl,Nat.zero_add]
  exact HC.out j u this)
 have aS:=hJ (show ∀ w',Below w.heap.size w w'→∀ j u,(p3V (L.drop k))[j]?=some u→w'.cell? ((⟨g,k*3,none⟩:Addr).add j)=some u from fun w' hb j u hu=>by
  have:(p3V L)[k*3+j]?=some u:=by rw [hcut,List.getElem?_append_right (by rw [p3V_len,hlk]; omega),p3V_len,hlk,Nat.add_sub_cancel_left]; exact hu
  rw [Addr.add_mid,hb.cell (p:=⟨g,k*3+j,none⟩) hgl]
  exact HC.out (k*3+j) u this)
 refine ryy [4,6] ?_
 refine .cons rfl (fun K hK=>?_) ?_
 ·refine step_append_own7 rfl _ _ 71 rfl w.heap.size 47 i0 _ 3 24 Tryz.underlying71 hi hz0 hz1 hz2 rfl (by decide) (.slice none 0 0) 0 [] rfl (World.ownsRow_nil _ _ _ _) ⟨g,0,none⟩ k _ (p3V (L.take k)) rfl (by rw [p3V_len,hlk]) (aR.out _ aL.out) (p3V_one _) (by unfold maxLen; omega) (by omega) aL.out.size ?_
  intro va wa hown hgrow
  rw [Nat.zero_add,List.nil_append] at hown
  obtain ⟨v2,rfl⟩:∃ W,W=wa:=⟨_,rfl⟩
  have aO:=hJ hown
  have aJ:=hJ (aL.out.grown hgrow aL.out.size (by simp [Value.ownBlock]))
  clear hown hgrow
  clear hHeld
  refine hK.out _ _ (HS.out _ aJ.out) (fun hHeld=>?_)
  clear hK K
  try simp only [PT]
  refine ryy [6] ?_
  refine .cons rfl (fun K hK=>?_) .nil
  go_simp
  have aM:=hJ ((Below.refl v2.heap.size v2).alloc (Nat.le_refl _) (.cells #[.int .i64 X,.int .i64 Y,.int .i64 D] 47))
  have aK:=hJ (BX.lit v2 47 #[.int .i64 X,.int .i64 Y,.int .i64 D])
  obtain ⟨v3,hV⟩:=nmz (World.alloc v2 (.cells #[.int .i64 X,.int .i64 Y,.int .i64 D] 47))
  obtain ⟨gq,hg⟩:=nmz (v2.heap.size)
  rw [hV] at aM aK ⊢
  rw [hg] at aK ⊢
  clear hV hg
  have aI:=hJ (bt aJ.out aM.out)
  clear hHeld
  refine hK.out _ _ (HS.out _ aI.out) (fun hHeld=>?_)
  clear hK K
  try simp only [PT]
  have aT:=hJ (own7_new aO.out aM.out)
  refine ryy [7] ?_
  refine .cons rfl (fun K hK=>?_) .nil
  refine step_append_own7 rfl _ _ 71 rfl w.heap.size 47 i0 _ 3 24 Tryz.underlying71 hi hz0 hz1 hz2 rfl (by decide) va k (p3V (L.take k)) rfl aT.out ⟨gq,0,none⟩ 1 1 [.int .i64 X,.int .i64 Y,.int .i64 D] rfl rfl (BX.news aK.out) (List.all_eq_true (p:=Value.oneCell')|>.1 rfl) (by unfold maxLen; omega) (by omega) aI.out.size ?_
  intro vb wb hown hgrow
  obtain ⟨v4,rfl⟩:∃ W,W=wb:=⟨_,rfl⟩
  have aC:=hJ (show v4.ownsRow w.heap.size 47 3 vb (k+1) (p3V (L.take k ++ [(X,Y,D)])) by rw [p3V_app]; exact hown)
  have aA:=hJ (aI.out.grown hgrow aI.out.size (fun j hj=>((aT.out).lt j hj).1))
  clear hown hgrow
  clear hHeld
  refine hK.out _ _ (HS.out _ aA.out) (fun hHeld=>?_)
  clear hK K
  try simp only [PT]
  refine tq 8 ?_
  try simp only [PT]
  refine wpAnyH_done (by kernel_rfl) ?_ _
  clear hHeld
  rcases (show k < n∨k=n by omega) with hlt | hlt
  ·have hck:¬ cap=k:=by omega
   have hnk:(n:Int) - (k:Int)=((n - k:Nat):Int):=by omega
   have hki2:(k:Int)≤(n:Int):=by omega
   have hnc2:(n:Int)≤(cap:Int):=by omega
   go_wp2_with (at_builtin; refine wpList_append_own _ rfl _ _ 71 rfl w.heap.size 47 i0 _ 3 24 Tryz.underlying71 hi hz0 hz1 hz2 rfl (by decide) vb (k+1) (p3V (L.take k ++ [(X,Y,D)])) rfl aC.out ⟨g,k*3,none⟩ (n - k) _ (p3V (L.drop k)) rfl (by rw [p3V_len,hld]) (aS.out _ aA.out) (p3V_one _) (by unfold maxLen; omega) (by omega) aA.out.size ?_; intro vc wc hown hgrow _; refine stop_h7 (fun q aB=>?_))
   rw [aB.out]
   clear aB q
   have aG:=hJ (show wc.ownsRow w.heap.size 47 3 vc (L.take k ++ (X,Y,D) :: L.drop k).length (p3V (L.take k ++ (X,Y,D) :: L.drop k)) from by
    have e:L.take k ++ (X,Y,D) :: L.drop k=(L.take k ++ [(X,Y,D)]) ++ L.drop k:=by simp
    rw [e,p3V_app]
    rwa [show ((L.take k ++ [(X,Y,D)]) ++ L.drop k).length=k+1+(n - k) by rw [List.length_append,List.length_append,hlk,hld]; rfl])
   have aH:=hJ (aA.out.grown hgrow aA.out.size (fun j hj=>(aC.out.lt j hj).1))
   clear hown hgrow
   go_wp2
   try go_ret
   exact hR _ _ (own7_mono aG.out aD.out.size) (bt aD.out aH.out)
  subst hlt
  have hcc:(k:Int)≤(cap:Int):=by omega
  by_cases hck:cap=k
  ·subst hck
   go_wp2_with (at_builtin; refine wpList_append_own _ rfl _ _ 71 rfl w.heap.size 47 i0 _ 3 24 Tryz.underlying71 hi hz0 hz1 hz2 rfl (by decide) vb (cap+1) (p3V (L.take cap ++ [(X,Y,D)])) rfl aC.out _ 0 _ [] rfl rfl (fun j u h=>by simp at h) (fun u h=>by cases h) (by unfold maxLen; omega) (by omega) aA.out.size ?_; intro vc wc hown hgrow _; refine stop_h7 (fun q aB=>?_))
   rw [aB.out]
   clear aB q
   have aG:=hJ (show wc.ownsRow w.heap.size 47 3 vc (L.take cap ++ (X,Y,D) :: L.drop cap).length (p3V (L.take cap ++ (X,Y,D) :: L.drop cap)) from by
    rw [show L.drop cap=[] from List.drop_of_length_le (by omega),show (L.take cap ++ [(X,Y,D)]).length=cap+1 from by rw [List.length_append,hlk]; rfl]
    rwa [List.append_nil] at hown)
   have aH:=hJ (aA.out.grown hgrow aA.out.size (fun j hj=>(aC.out.lt j hj).1))
   clear hown hgrow
   go_wp2
   try go_ret
   exact hR _ _ (own7_mono aG.out aD.out.size) (bt aD.out aH.out)
  have hck2:¬ (cap:Int)=(k:Int):=by omega
  go_wp2_with (at_builtin; refine wpList_append_own _ rfl _ _ 71 rfl w.heap.size 47 i0 _ 3 24 Tryz.underlying71 hi hz0 hz1 hz2 rfl (by decide) vb (k+1) (p3V (L.take k ++ [(X,Y,D)])) rfl aC.out _ 0 _ [] rfl rfl (fun j u h=>by simp at h) (fun u h=>by cases h) (by unfold maxLen; omega) (by omega) aA.out.size ?_; intro vc wc hown hgrow _; refine stop_h7 (fun q aB=>?_))
  rw [aB.out]
  clear aB q
  have aG:=hJ (show wc.ownsRow w.heap.size 47 3 vc (L.take k ++ (X,Y,D) :: L.drop k).length (p3V (L.take k ++ (X,Y,D) :: L.drop k)) from by
   rw [show L.drop k=[] from List.drop_of_length_le (by omega),show (L.take k ++ [(X,Y,D)]).length=k+1 from by rw [List.length_append,hlk]; rfl]
   rwa [List.append_nil] at hown)
  have aH:=hJ (aA.out.grown hgrow aA.out.size (fun j hj=>(aC.out.lt j hj).1))
  clear hown hgrow
  go_wp2
  try go_ret
  exact hR _ _ (own7_mono aG.out aD.out.size) (bt aD.out aH.out)
 ·refine .cons rfl (fun K hK=>?_) .nil
  go_simp
  have aM:=hJ ((Below.refl v1.heap.size v1).alloc (Nat.le_refl _) (.cells #[.int .i64 X,.int .i64 Y,.int .i64 D] 47))
  have aK:=hJ (BX.lit v1 47 #[.int .i64 X,.int .i64 Y,.int .i64 D])
  obtain ⟨v2,hV⟩:=nmz (World.alloc v1 (.cells #[.int .i64 X,.int .i64 Y,.int .i64 D] 47))
  obtain ⟨gq,hg⟩:=nmz (v1.heap.size)
  rw [hV] at aM aK ⊢
  rw [hg] at aK ⊢
  clear hV hg
  have aJ:=hJ (bt aL.out aM.out)
  clear hHeld
  refine hK.out _ _ (HS.out _ aJ.out) (fun hHeld=>?_)
  clear hK K
  try simp only [PT]
  refine ryy [4] ?_
  refine .cons rfl (fun K hK=>?_) .nil
  have aV:=aK
  refine step_append_own7 rfl _ _ 71 rfl w.heap.size 47 i0 _ 3 24 Tryz.underlying71 hi hz0 hz1 hz2 rfl (by decide) (.slice none 0 0) 0 [] rfl (World.ownsRow_nil _ _ _ _) ⟨g,0,none⟩ k _ (p3V (L.take k)) rfl (by rw [p3V_len,hlk]) (aR.out _ aJ.out) (p3V_one _) (by unfold maxLen; omega) (by omega) aJ.out.size ?_
  intro va wa hown hgrow
  rw [Nat.zero_add,List.nil_append] at hown
  obtain ⟨v3,rfl⟩:∃ W,W=wa:=⟨_,rfl⟩
  have aO:=hJ hown
  have aI:=hJ (aJ.out.grown hgrow aJ.out.size (by simp [Value.ownBlock]))
  have aU:=hJ (BX.new aK.out (Below.grown (Below.refl _ _) hgrow (Nat.le_refl _) (by simp [Value.ownBlock])))
  clear hown hgrow
  clear hHeld
  refine hK.out _ _ (HS.out _ aI.out) (fun hHeld=>?_)
  clear hK K
  try simp only [PT]
  refine ryy [7] ?_
  refine .cons rfl (fun K hK=>?_) .nil
  refine step_append_own7 rfl _ _ 71 rfl w.heap.size 47 i0 _ 3 24 Tryz.underlying71 hi hz0 hz1 hz2 rfl (by decide) va k (p3V (L.take k)) rfl aO.out ⟨gq,0,none⟩ 1 1 [.int .i64 X,.int .i64 Y,.int .i64 D] rfl rfl (BX.news aU.out) (List.all_eq_true (p:=Value.oneCell')|>.1 rfl) (by unfold maxLen; omega) (by omega) aI.out.size ?_
  intro vb wb hown hgrow
  obtain ⟨v4,rfl⟩:∃ W,W=wb:=⟨_,rfl⟩
  have aC:=hJ (show v4.ownsRow w.heap.size 47 3 vb (k+1) (p3V (L.take k ++ [(X,Y,D)])) by rw [p3V_app]; exact hown)
  have aA:=hJ (aI.out.grown hgrow aI.out.size (fun j hj=>((aO.out).lt j hj).1))
  clear hown hgrow
  clear hHeld
  refine hK.out _ _ (HS.out _ aA.out) (fun hHeld=>?_)
  clear hK K
  try simp only [PT]
  refine tq 8 ?_
  try simp only [PT]
  refine wpAnyH_done (by kernel_rfl) ?_ _
  clear hHeld
  rcases (show k < n∨k=n by omega) with hlt | hlt
  ·have hck:¬ cap=k:=by omega
   have hnk:(n:Int) - (k:Int)=((n - k:Nat):Int):=by omega
   have hki2:(k:Int)≤(n:Int):=by omega
   have hnc2:(n:Int)≤(cap:Int):=by omega
   go_wp2_with (at_builtin; refine wpList_append_own _ rfl _ _ 71 rfl w.heap.size 47 i0 _ 3 24 Tryz.underlying71 hi hz0 hz1 hz2 rfl (by decide) vb (k+1) (p3V (L.take k ++ [(X,Y,D)])) rfl aC.out ⟨g,k*3,none⟩ (n - k) _ (p3V (L.drop k)) rfl (by rw [p3V_len,hld]) (aS.out _ aA.out) (p3V_one _) (by unfold maxLen; omega) (by omega) aA.out.size ?_; intro vc wc hown hgrow _; refine stop_h7 (fun q aB=>?_))
   rw [aB.out]
   clear aB q
   have aG:=hJ (show wc.ownsRow w.heap.size 47 3 vc (L.take k ++ (X,Y,D) :: L.drop k).length (p3V (L.take k ++ (X,Y,D) :: L.drop k)) from by
    have e:L.take k ++ (X,Y,D) :: L.drop k=(L.take k ++ [(X,Y,D)]) ++ L.drop k:=by simp
    rw [e,p3V_app]
    rwa [show ((L.take k ++ [(X,Y,D)]) ++ L.drop k).length=k+1+(n - k) by rw [List.length_append,List.length_append,hlk,hld]; rfl])
   have aH:=hJ (aA.out.grown hgrow aA.out.size (fun j hj=>(aC.out.lt j hj).1))
   clear hown hgrow
   go_wp2
   try go_ret
   exact hR _ _ (own7_mono aG.out aD.out.size) (bt aD.out aH.out)
  ·subst hlt
   have hcc:(k:Int)≤(cap:Int):=by omega
   by_cases hck:cap=k
   ·subst hck
    go_wp2_with (at_builtin; refine wpList_append_own _ rfl _ _ 71 rfl w.heap.size 47 i0 _ 3 24 Tryz.underlying71 hi hz0 hz1 hz2 rfl (by decide) vb (cap+1) (p3V (L.take cap ++ [(X,Y,D)])) rfl aC.out _ 0 _ [] rfl rfl (fun j u h=>by simp at h) (fun u h=>by cases h) (by unfold maxLen; omega) (by omega) aA.out.size ?_; intro vc wc hown hgrow _; refine stop_h7 (fun q aB=>?_))
    rw [aB.out]
    clear aB q
    have aG:=hJ (show wc.ownsRow w.heap.size 47 3 vc (L.take cap ++ (X,Y,D) :: L.drop cap).length (p3V (L.take cap ++ (X,Y,D) :: L.drop cap)) from by
     rw [show L.drop cap=[] from List.drop_of_length_le (by omega),show (L.take cap ++ [(X,Y,D)]).length=cap+1 from by rw [List.length_append,hlk]; rfl]
     rwa [List.append_nil] at hown)
    have aH:=hJ (aA.out.grown hgrow aA.out.size (fun j hj=>(aC.out.lt j hj).1))
    clear hown hgrow
    go_wp2
    try go_ret
    exact hR _ _ (own7_mono aG.out aD.out.size) (bt aD.out aH.out)
   ·have hck2:¬ (cap:Int)=(k:Int):=by omega
    go_wp2_with (at_builtin; refine wpList_append_own _ rfl _ _ 71 rfl w.heap.size 47 i0 _ 3 24 Tryz.underlying71 hi hz0 hz1 hz2 rfl (by decide) vb (k+1) (p3V (L.take k ++ [(X,Y,D)])) rfl aC.out _ 0 _ [] rfl rfl (fun j u h=>by simp at h) (fun u h=>by cases h) (by unfold maxLen; omega) (by omega) aA.out.size ?_; intro vc wc hown hgrow _; refine stop_h7 (fun q aB=>?_))
    rw [aB.out]
    clear aB q
    have aG:=hJ (show wc.ownsRow w.heap.size 47 3 vc (L.take k ++ (X,Y,D) :: L.drop k).length (p3V (L.take k ++ (X,Y,D) :: L.drop k)) from by
     rw [show L.drop k=[] from List.drop_of_length_le (by omega),show (L.take k ++ [(X,Y,D)]).length=k+1 from by rw [List.length_append,hlk]; rfl]
     rwa [List.append_nil] at hown)
    have aH:=hJ (aA.out.grown hgrow aA.out.size (fun j hj=>(aC.out.lt j hj).1))
    clear hown hgrow
    go_wp2
    try go_ret
    exact hR _ _ (own7_mono aG.out aD.out.size) (bt aD.out aH.out)
end Go.Proofs.YtdgicnhadecldaaGreat
