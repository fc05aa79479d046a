/- The reference's Put on nil: its end. Conditions: as each statement has them. -/
import Derived.Test.YtdgicnhadecldaaGreatKAE
import Derived.Test.YtdgicnhadecldaaGreatKB2
import Derived.Test.YtdgicnhadecldaaGreatKB5
import Derived.Test.YtdgicnhadecldaaGreatKCH
import Derived.Test.YtdgicnhadecldaaGreatKCP
import Derived.Test.YtdgicnhadecldaaGreatKDF
import Derived.Test.YtdgicnhadecldaaGreatKFD
import Derived.Test.YtdgicnhadecldaaGreatKYA
namespace Go.Proofs.YtdgicnhadecldaaGreat
open Go.RowKit
attribute [local go_sem ↓] Go.wp_at_zero Go.wp_at_succ
set_option linter.unusedVariables false
set_option linter.unusedSimpArgs false
theorem step_append_none7 {P:Program} {ops:Array Oper} {o:Oper} {a:Act} {w:World} {K:Act→World→Prop} {Q:Exit→Act→World→Prop} {E:Prop} (hg:o.guard=none) (s x:Operand) (t:TypeId)
  (ho:o.op=.call { callee:=.builtin .append,args:=#[s,x],argTypes:=#[t,t] })
  (base:Nat) (e:TypeId) (i:TypeInfo) (size:Nat) (ht:P.underlying t=some (.slice e)) (hi:P.info? e=some i)
  (v:Value) (n:Nat) (xs:List Value) (hs:a.eval s=v) (hown:w.ownsRow base e size v n xs) (hx:a.eval x=.slice none 0 0)
  (h:K (a.put o.dst v) w):if Region.wanted o (yielded ops a.tmps)=true then Oper.wp P o a w K Q else E:=by
 have hw:Region.wanted o (yielded ops a.tmps)=true:=by simp [Region.wanted,hg]
 rw [if_pos hw]
 have hrun:=run_append_owned_none (P:=P) (w:=w) base t o.type e i size ht hi v n xs hown
 unfold Oper.wp
 simp [execOp,ho,resolve,invoke,builtin,hs,hx,hrun,Result.andThen]
 exact h
set_option maxRecDepth 100000 in
set_option maxHeartbeats 12800000 in
theorem put_t0 {z1 z2 z4 z6 z7 z8 z9 z10 z11 z12 z13 z14 z15 z16 z17 z18 z19 z20 z21 z22 z23 z24 z25 z26 z27 z28 z29 z30 z31 z32 z33 z34 z35 z36 z37 z38 z39 z40 z41 z42 z43 z44 z45 z46 z47:Value} (X Y D:Int) (b:Nat) (w0 w:World) (HB:Hid (BX 47 w b #[.int .i64 X,.int .i64 Y,.int .i64 D])) (aI:Hid (Below w0.heap.size w0 w)) (R:Ending→World→Prop) (hR:∀ v' w',RowT w0.heap.size w' v' [(X,Y,D)]→Below w0.heap.size w0 w'→R (.returned v') w')
  (K:Act→World→Prop) (hK:∀ a w,Code.wp Tryz.prog (sqP 5 putB) (bodyPost Tryz.prog Tryz.f62 R) a w→K a w) :
  Code.wp Tryz.prog (fsP (sqP 4 putB)) (Exit.then K (bodyPost Tryz.prog Tryz.f62 R)) ⟨((.slice none 0 0:Value) :: z1 :: z2 :: (.pointer (some ⟨b,0,none⟩):Value) :: z4 :: (.int .i64 0:Value) :: z6 :: z7 :: z8 :: z9 :: z10 :: z11 :: z12 :: z13 :: z14 :: z15 :: z16 :: z17 :: z18 :: z19 :: z20 :: z21 :: z22 :: z23 :: z24 :: z25 :: z26 :: z27 :: z28 :: z29 :: z30 :: z31 :: z32 :: z33 :: z34 :: z35 :: z36 :: z37 :: z38 :: z39 :: z40 :: z41 :: z42 :: z43 :: z44 :: z45 :: z46 :: z47 :: []).toArray,[]⟩ w:=by
 conv=>arg 2; whnf
 conv at hK=>intro a w; arg 1; arg 2; whnf
 obtain ⟨i0,hi,hz0,hz1,hz2⟩:=info_parts tr_info
 go_wp2_with fail
 have HS:Hid (∀ w',Below w.heap.size w w'→(fun w':World=>w'.cell? ⟨b,0,none⟩=some (.int .i64 X)∧w'.cell? ⟨b,1,none⟩=some (.int .i64 Y)∧w'.cell? ⟨b,2,none⟩=some (.int .i64 D)∧Below w.heap.size w w') w'):=hJ (fun w' hb=>⟨(BX.new HB.out hb).cell 0 rfl,(BX.new HB.out hb).cell 1 rfl,(BX.new HB.out hb).cell 2 rfl,hb⟩)
 obtain ⟨v1,hv1⟩:=nmz (World.drew w)
 have aJ:=hJ (show Below w.heap.size w v1 by rw [←hv1]; exact (Below.refl _ _).drew)
 refine wp_region_held_drew (S:=(fun w':World=>w'.cell? ⟨b,0,none⟩=some (.int .i64 X)∧w'.cell? ⟨b,1,none⟩=some (.int .i64 Y)∧w'.cell? ⟨b,2,none⟩=some (.int .i64 D)∧Below w.heap.size w w')) (by kernel_rfl) ?_ (fun hHeld=>?_)
 ·rw [hv1]
  exact HS.out _ aJ.out
 rw [hv1] at hHeld ⊢
 clear hv1
 refine tq 0 ?_
 refine tq 1 ?_
 refine tq 2 ?_
 try simp only [PT]
 refine tk 3 (.slice none 0 0) ?_ ?_
 ·intro w hSw
  (try dsimp only at hSw)
  go_simp
 try simp only [PT]
 refine tk 5 (.agg #[.int .i64 X,.int .i64 Y,.int .i64 D]) ?_ ?_
 ·intro w hSw
  (try dsimp only at hSw)
  go_simp
 try simp only [PT]
 refine ryy [4,6] ?_
 refine .cons rfl (fun K hK=>?_) ?_
 ·refine step_append_none7 rfl _ _ 71 rfl w.heap.size 47 i0 3 Tryz.underlying71 hi (.slice none 0 0) 0 [] rfl (World.ownsRow_nil _ _ _ _) rfl ?_
  clear hHeld
  refine hK.out _ _ (HS.out _ aJ.out) (fun hHeld=>?_)
  clear hK K
  try simp only [PT]
  refine ryy [6] ?_
  refine .cons rfl (fun K hK=>?_) .nil
  go_simp
  have aC:=hJ ((Below.refl v1.heap.size v1).alloc (Nat.le_refl _) (.cells #[.int .i64 X,.int .i64 Y,.int .i64 D] 47))
  have aB:=hJ (BX.lit v1 47 #[.int .i64 X,.int .i64 Y,.int .i64 D])
  obtain ⟨v2,hV⟩:=nmz (World.alloc v1 (.cells #[.int .i64 X,.int .i64 Y,.int .i64 D] 47))
  obtain ⟨gq,hg⟩:=nmz (v1.heap.size)
  rw [hV] at aC aB ⊢
  rw [hg] at aB ⊢
  clear hV hg
  have aA:=hJ (bt aJ.out aC.out)
  clear hHeld
  refine hK.out _ _ (HS.out _ aA.out) (fun hHeld=>?_)
  clear hK K
  try simp only [PT]
  refine ryy [7] ?_
  refine .cons rfl (fun K hK=>?_) .nil
  refine step_append_own7 rfl _ _ 71 rfl w.heap.size 47 i0 _ 3 24 Tryz.underlying71 hi hz0 hz1 hz2 rfl (by decide) (.slice none 0 0) 0 [] rfl (World.ownsRow_nil _ _ _ _) ⟨gq,0,none⟩ 1 1 [.int .i64 X,.int .i64 Y,.int .i64 D] rfl rfl (BX.news aB.out) (List.all_eq_true (p:=Value.oneCell')|>.1 rfl) (by decide) (by decide) aA.out.size ?_
  intro vb wb hown hgrow
  obtain ⟨v4,rfl⟩:∃ W,W=wb:=⟨_,rfl⟩
  have aD:=hJ (show v4.ownsRow w.heap.size 47 3 vb 1 (p3V [(X,Y,D)]) from hown)
  have aG:=hJ (aA.out.grown hgrow aA.out.size (by simp [Value.ownBlock]))
  clear hown hgrow
  clear hHeld
  refine hK.out _ _ (HS.out _ aG.out) (fun hHeld=>?_)
  clear hK K
  refine tq 8 ?_
  try simp only [PT]
  refine wpAnyH_done (by kernel_rfl) ?_ _
  clear hHeld
  go_wp2_with (at_builtin; refine wpList_append_own_none rfl _ _ 71 rfl w.heap.size 47 i0 3 Tryz.underlying71 hi vb 1 (p3V [(X,Y,D)]) rfl aD.out rfl ?_; refine stop_h7 (fun q aH=>?_))
  rw [aH.out]
  clear aH q
  go_wp2
  try go_ret
  exact hR _ _ (own7_mono aD.out aI.out.size) (bt aI.out aG.out)
 ·refine .cons rfl (fun K hK=>?_) .nil
  go_simp
  have aC:=hJ ((Below.refl v1.heap.size v1).alloc (Nat.le_refl _) (.cells #[.int .i64 X,.int .i64 Y,.int .i64 D] 47))
  have aB:=hJ (BX.lit v1 47 #[.int .i64 X,.int .i64 Y,.int .i64 D])
  obtain ⟨v2,hV⟩:=nmz (World.alloc v1 (.cells #[.int .i64 X,.int .i64 Y,.int .i64 D] 47))
  obtain ⟨gq,hg⟩:=nmz (v1.heap.size)
  rw [hV] at aC aB ⊢
  rw [hg] at aB ⊢
  clear hV hg
  have aA:=hJ (bt aJ.out aC.out)
  clear hHeld
  refine hK.out _ _ (HS.out _ aA.out) (fun hHeld=>?_)
  clear hK K
  try simp only [PT]
  refine ryy [4] ?_
  refine .cons rfl (fun K hK=>?_) .nil
  refine step_append_none7 rfl _ _ 71 rfl w.heap.size 47 i0 3 Tryz.underlying71 hi (.slice none 0 0) 0 [] rfl (World.ownsRow_nil _ _ _ _) rfl ?_
  clear hHeld
  refine hK.out _ _ (HS.out _ aA.out) (fun hHeld=>?_)
  clear hK K
  try simp only [PT]
  refine ryy [7] ?_
  refine .cons rfl (fun K hK=>?_) .nil
  refine step_append_own7 rfl _ _ 71 rfl w.heap.size 47 i0 _ 3 24 Tryz.underlying71 hi hz0 hz1 hz2 rfl (by decide) (.slice none 0 0) 0 [] rfl (World.ownsRow_nil _ _ _ _) ⟨gq,0,none⟩ 1 1 [.int .i64 X,.int .i64 Y,.int .i64 D] rfl rfl (BX.news aB.out) (List.all_eq_true (p:=Value.oneCell')|>.1 rfl) (by decide) (by decide) aA.out.size ?_
  intro vb wb hown hgrow
  obtain ⟨v4,rfl⟩:∃ W,W=wb:=⟨_,rfl⟩
  have aD:=hJ (show v4.ownsRow w.heap.size 47 3 vb 1 (p3V [(X,Y,D)]) from hown)
  have aG:=hJ (aA.out.grown hgrow aA.out.size (by simp [Value.ownBlock]))
  clear hown hgrow
  clear hHeld
  refine hK.out _ _ (HS.out _ aG.out) (fun hHeld=>?_)
  clear hK K
  refine tq 8 ?_
  try simp only [PT]
  refine wpAnyH_done (by kernel_rfl) ?_ _
  clear hHeld
  go_wp2_with (at_builtin; refine wpList_append_own_none rfl _ _ 71 rfl w.heap.size 47 i0 3 Tryz.underlying71 hi vb 1 (p3V [(X,Y,D)]) rfl aD.out rfl ?_; refine stop_h7 (fun q aH=>?_))
  rw [aH.out]
  clear aH q
  go_wp2
  try go_ret
  exact hR _ _ (own7_mono aD.out aI.out.size) (bt aI.out aG.out)
end Go.Proofs.YtdgicnhadecldaaGreat
