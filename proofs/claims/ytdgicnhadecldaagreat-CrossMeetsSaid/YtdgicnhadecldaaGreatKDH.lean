/- The reference's Put. Conditions: as each statement has them. -/
import Derived.Test.YtdgicnhadecldaaGreatKB2
import Derived.Test.YtdgicnhadecldaaGreatKB5
import Derived.Test.YtdgicnhadecldaaGreatKCY
import Derived.Test.YtdgicnhadecldaaGreatKDC
import Derived.Test.YtdgicnhadecldaaGreatKDF
import Derived.Test.YtdgicnhadecldaaGreatKDG
import Derived.Test.YtdgicnhadecldaaGreatKFD
import Derived.Test.YtdgicnhadecldaaGreatKQL
import Derived.Test.YtdgicnhadecldaaGreatKYA
namespace Go.Proofs.YtdgicnhadecldaaGreat
open Go.RowKit
attribute [local go_sem ↓] Go.wp_at_zero Go.wp_at_succ
set_option linter.unusedVariables false
set_option linter.unusedSimpArgs false
theorem cur_get {cur:Array Value} {m:Nat} {xs:List Value} (h:cur.toList.take m=xs) {j:Nat} {u:Value} (hu:xs[j]?=some u):cur[j]?=some u:=by
 subst h
 rw [List.getElem?_take] at hu
 split at hu
 ·rw [←Array.getElem?_toList]; exact hu
 ·cases hu
theorem p3V_getl {l:List Tr} {i:Nat} {x y z:Int} (h:l[i]?=some (x,y,z)):(p3V l)[i*3]?=some (.int .i64 x)∧(p3V l)[i*3+1]?=some (.int .i64 y)∧(p3V l)[i*3+2]?=some (.int .i64 z):=by
 have:=p3V_get h
 simpa only [List.getElem?_toArray] using this
theorem put_step {L:List Tr} {i:Nat} {q p:Tr} (h:L[i]?=some q):L.drop i=q :: L.drop (i+1):=by
 obtain ⟨hi,rfl⟩:=List.getElem?_eq_some_iff.1 h
 exact List.drop_eq_getElem_cons hi
theorem put_less {L:List Tr} {i:Nat} {q p:Tr} (hI:put7 L p=L.take i ++ put7 (L.drop i) p) (h:L[i]?=some q) (hc:rcV q.1 q.2.1 q.2.2 p.1 p.2.1 p.2.2 < 0):put7 L p=L.take (i+1) ++ put7 (L.drop (i+1)) p:=by
 rw [hI,put_step (p:=p) h]
 show L.take i ++ (if rcV q.1 q.2.1 q.2.2 p.1 p.2.1 p.2.2 < 0 then q :: put7 (L.drop (i+1)) p else _)=_
 rw [if_pos hc,List.take_add_one,h]
 simp
theorem put_same {L:List Tr} {i:Nat} {q p:Tr} (hI:put7 L p=L.take i ++ put7 (L.drop i) p) (h:L[i]?=some q) (hc:¬ rcV q.1 q.2.1 q.2.2 p.1 p.2.1 p.2.2 < 0) (e:q=p):put7 L p=L:=by
 rw [hI,put_step (p:=p) h]
 show L.take i ++ (if rcV q.1 q.2.1 q.2.2 p.1 p.2.1 p.2.2 < 0 then _ else if q=p then q :: L.drop (i+1) else _)=_
 rw [if_neg hc,if_pos e,←put_step (p:=p) h,List.take_append_drop]
theorem put_more {L:List Tr} {i:Nat} {q p:Tr} (hI:put7 L p=L.take i ++ put7 (L.drop i) p) (h:L[i]?=some q) (hc:¬ rcV q.1 q.2.1 q.2.2 p.1 p.2.1 p.2.2 < 0) (e:¬ q=p):put7 L p=L.take i ++ p :: L.drop i:=by
 rw [hI,put_step (p:=p) h]
 show L.take i ++ (if rcV q.1 q.2.1 q.2.2 p.1 p.2.1 p.2.2 < 0 then _ else if q=p then _ else p :: q :: L.drop (i+1))=_
 rw [if_neg hc,if_neg e]
theorem put_end {L:List Tr} {p:Tr} (hI:put7 L p=L.take L.length ++ put7 (L.drop L.length) p):put7 L p=L.take L.length ++ p :: L.drop L.length:=by
 rw [hI,List.drop_length]
 rfl
set_option maxRecDepth 100000 in
set_option maxHeartbeats 1600000 in
theorem put0_any (X Y D:Int) (w:World) :
  Calls Tryz.prog 62 #[.slice none 0 0,.agg #[.int .i64 X,.int .i64 Y,.int .i64 D]] w (fun e w'=>∃ v',e=.returned v'∧RowT w.heap.size w' v' [(X,Y,D)]∧Below w.heap.size w w'):=by
 obtain ⟨x1,aA⟩:=nmz (w.alloc (.cells #[.int .i64 X,.int .i64 Y,.int .i64 D] 47))
 have aG:=hJ (show Below w.heap.size w x1 by rw [←aA]; exact ((Below.refl _ _).alloc (Nat.le_refl _) _))
 have aH:=hJ (show BX 47 x1 w.heap.size #[.int .i64 X,.int .i64 Y,.int .i64 D] by rw [←aA]; exact (BX.at rfl))
 go_enter Tryz.func62,Tryz.ntmps62
 go_wp2_with fail
 clear aA
 go_loopw [5] (fun tv wr=>∃ i:Nat,i≤0∧tv=.int .i64 (i:Int)∧Below x1.heap.size x1 wr) (fun tv _=>0 - (intOf tv).toNat)
 case atStart=>exact ⟨0,by omega,rfl,Below.refl _ _⟩
 case round =>
  obtain ⟨i2,hi,rfl,hbel⟩:=hrel
  obtain ⟨wl2,rfl⟩:∃ W:World,W=wr:=⟨_,rfl⟩
  have aB:=hJ hbel
  clear hbel
  have hcs:i2=0:=by omega
  clear hi
  rcases hcs with rfl
  ·(try rw [show ((0:Nat):Int)=0 from rfl])
   have aI:Hid (∀ w',Below wl2.heap.size wl2 w'→(fun w':World=>Below wl2.heap.size wl2 w') w'):=hJ (fun w' hb=>hb)
   go_wp2_with fail
   obtain ⟨v3,hv3⟩:=nmz (World.drew wl2)
   have aC:=hJ (show Below wl2.heap.size wl2 v3 by rw [←hv3]; exact (Below.refl _ _).drew)
   refine whd aI hv3 (fun hHeld=>?_)
   clear hv3
   refine tq 0 ?_
   refine tq 1 ?_
   refine tq 2 ?_
   refine tq 3 ?_
   refine tq 4 ?_
   try simp only [PT]
   refine wpAnyH_take (i:=5) (v:=undef) rfl (by kernel_rfl) (by kernel_rfl) (by kernel_rfl) (fun _ _ _ h=>h) (Or.inr ⟨by kernel_rfl,rfl⟩) (by assumption) ?_
   try simp only [PT]
   refine wpAnyH_take (i:=6) (v:=undef) rfl (by kernel_rfl) (by kernel_rfl) (by kernel_rfl) (fun _ _ _ h=>h) (Or.inr ⟨by kernel_rfl,rfl⟩) (by assumption) ?_
   try simp only [PT]
   refine wpAnyH_take (i:=7) (v:=undef) rfl (by kernel_rfl) (by kernel_rfl) (by kernel_rfl) (fun _ _ _ h=>h) (Or.inr ⟨by kernel_rfl,rfl⟩) (by assumption) ?_
   try simp only [PT]
   refine wpAnyH_take (i:=8) (v:=undef) rfl (by kernel_rfl) (by kernel_rfl) (by kernel_rfl) (fun _ _ _ h=>h) (Or.inr ⟨by kernel_rfl,rfl⟩) (by assumption) ?_
   try simp only [PT]
   refine wpAnyH_take (i:=9) (v:=undef) rfl (by kernel_rfl) (by kernel_rfl) (by kernel_rfl) (fun _ _ _ h=>h) (Or.inr ⟨by kernel_rfl,rfl⟩) (by assumption) ?_
   try simp only [PT]
   refine wpAnyH_take (i:=10) (v:=undef) rfl (by kernel_rfl) (by kernel_rfl) (by kernel_rfl) (fun _ _ _ h=>h) (Or.inr ⟨by kernel_rfl,rfl⟩) (by assumption) ?_
   try simp only [PT]
   refine wpAnyH_take (i:=11) (v:=undef) rfl (by kernel_rfl) (by kernel_rfl) (by kernel_rfl) (fun _ _ _ h=>h) (Or.inr ⟨by kernel_rfl,rfl⟩) (by assumption) ?_
   refine tq 12 ?_
   try simp only [PT]
   refine wpAnyH_done (by kernel_rfl) ?_ _
   clear hHeld
   have aJ:Hid (∀ w',Below v3.heap.size v3 w'→(fun w':World=>Below v3.heap.size v3 w') w'):=hJ (fun w' hb=>hb)
   go_wp2_with fail
   obtain ⟨v4,hv4⟩:=nmz (World.drew v3)
   have aD:=hJ (show Below v3.heap.size v3 v4 by rw [←hv4]; exact (Below.refl _ _).drew)
   refine whd aJ hv4 (fun hHeld=>?_)
   clear hv4
   refine tq 0 ?_
   refine tq 1 ?_
   refine tq 2 ?_
   refine tq 3 ?_
   refine tq 4 ?_
   try simp only [PT]
   refine wpAnyH_take (i:=5) (v:=undef) rfl (by kernel_rfl) (by kernel_rfl) (by kernel_rfl) (fun _ _ _ h=>h) (Or.inr ⟨by kernel_rfl,rfl⟩) (by assumption) ?_
   try simp only [PT]
   refine wpAnyH_take (i:=6) (v:=undef) rfl (by kernel_rfl) (by kernel_rfl) (by kernel_rfl) (fun _ _ _ h=>h) (Or.inr ⟨by kernel_rfl,rfl⟩) (by assumption) ?_
   try simp only [PT]
   refine wpAnyH_take (i:=7) (v:=undef) rfl (by kernel_rfl) (by kernel_rfl) (by kernel_rfl) (fun _ _ _ h=>h) (Or.inr ⟨by kernel_rfl,rfl⟩) (by assumption) ?_
   try simp only [PT]
   refine wpAnyH_take (i:=8) (v:=undef) rfl (by kernel_rfl) (by kernel_rfl) (by kernel_rfl) (fun _ _ _ h=>h) (Or.inr ⟨by kernel_rfl,rfl⟩) (by assumption) ?_
   try simp only [PT]
   refine wpAnyH_take (i:=9) (v:=undef) rfl (by kernel_rfl) (by kernel_rfl) (by kernel_rfl) (fun _ _ _ h=>h) (Or.inr ⟨by kernel_rfl,rfl⟩) (by assumption) ?_
   try simp only [PT]
   refine wpAnyH_take (i:=10) (v:=undef) rfl (by kernel_rfl) (by kernel_rfl) (by kernel_rfl) (fun _ _ _ h=>h) (Or.inr ⟨by kernel_rfl,rfl⟩) (by assumption) ?_
   refine tq 11 ?_
   try simp only [PT]
   refine wpAnyH_done (by kernel_rfl) ?_ _
   clear hHeld
   have aK:=hJ (bt (bt aB.out aC.out) aD.out)
   have aL:=hJ (BX.new aH.out aK.out)
   have aM:=hJ (bt (bt (bt aG.out aB.out) aC.out) aD.out)
   go_upto_region 6 with fail
   refine wp_mono (put_t0 X Y D w.heap.size w v4 aL (hJ aM.out) (fun e w'=>∃ v',e=.returned v'∧RowT w.heap.size w' v' [(X,Y,D)]∧Below w.heap.size w w') (fun v' w' h hb=>⟨v',rfl,h,hb⟩) _ (by assumption)) (fun e a w h=>by cases e <;> exact h)
set_option maxRecDepth 100000 in
set_option maxHeartbeats 1600000 in
theorem putr_any (L:List Tr) (X Y D:Int) (g n cap B:Nat) (cur:Array Value) (w:World) (hq:BX 47 w g cur) (ht:cur.toList.take (n*3)=p3V L) (hn:L.length=n) (hn2:n≤1000) (hc:n≤cap) (hr:∀ q ∈ L,Rb q.1 q.2.1 q.2.2) (hp:Rb X Y D) (ho:RowT B w (.slice (some ⟨g,0,none⟩) n cap) L) (hB:B≤w.heap.size) :
  Calls Tryz.prog 62 #[.slice (some ⟨g,0,none⟩) n cap,.agg #[.int .i64 X,.int .i64 Y,.int .i64 D]] w (fun e w'=>∃ v',e=.returned v'∧RowT B w' v' (put7 L (X,Y,D))∧Below w.heap.size w w'):=by
 have aZ:=hJ hq
 have HT:=hJ ht
 have HN:=hJ hn
 have aV:=hJ hn2
 have aW:=hJ hc
 have bH:=hJ hr
 have bJ:=hJ hp
 have HO:=hJ ho
 have aX:=hJ hB
 clear hB hq ht hr hp ho
 obtain ⟨x1,bA⟩:=nmz (w.alloc (.cells #[.int .i64 X,.int .i64 Y,.int .i64 D] 47))
 have bB:=hJ (show Below w.heap.size w x1 by rw [←bA]; exact ((Below.refl _ _).alloc (Nat.le_refl _) _))
 have bC:=hJ (show BX 47 x1 w.heap.size #[.int .i64 X,.int .i64 Y,.int .i64 D] by rw [←bA]; exact (BX.at rfl))
 go_enter Tryz.func62,Tryz.ntmps62
 go_wp2_with fail
 clear bA
 go_loopw [5] (fun tv wr=>∃ i:Nat,i≤n∧tv=.int .i64 (i:Int)∧Below x1.heap.size x1 wr∧Hid (put7 L (X,Y,D)=L.take i ++ put7 (L.drop i) (X,Y,D))) (fun tv _=>n - (intOf tv).toNat)
 case atStart=>exact ⟨0,by omega,rfl,Below.refl _ _,hJ rfl⟩
 case round =>
  obtain ⟨i,hi,rfl,hbel,HI⟩:=hrel
  obtain ⟨wl1,rfl⟩:∃ W:World,W=wr:=⟨_,rfl⟩
  have aK:=hJ hbel
  clear hbel
  have h0i:(0:Int)≤(i:Int):=by omega
  rcases (show (∃ h:i < n,rcV (L[i]'(by omega)).1 (L[i]'(by omega)).2.1 (L[i]'(by omega)).2.2 X Y D < 0)∨(∃ h:i < n,¬ rcV (L[i]'(by omega)).1 (L[i]'(by omega)).2.1 (L[i]'(by omega)).2.2 X Y D < 0)∨i=n by
   by_cases h:i < n
   ·by_cases c:rcV (L[i]'(by omega)).1 (L[i]'(by omega)).2.1 (L[i]'(by omega)).2.2 X Y D < 0
    ·exact .inl ⟨h,c⟩
    exact .inr (.inl ⟨h,c⟩)
   exact .inr (.inr (by omega))) with ⟨hlt,hcr⟩ | ⟨hlt,hcr⟩ | hlt
  ·obtain ⟨qx,qy,qd,hq⟩:=get3 HN.out hlt
   have aL:=hJ (cur_get HT.out (p3V_getl hq).1)
   have aM:=hJ (cur_get HT.out (p3V_getl hq).2.1)
   have aO:=hJ (cur_get HT.out (p3V_getl hq).2.2)
   have bD:=hJ (show Rb qx qy qd from bH.out _ (List.mem_of_getElem? hq))
   obtain ⟨rc,hrc⟩:=nmz (rcV qx qy qd X Y D)
   have aR:=hJ hrc
   have aJ:=hJ hq
   have hlt2:(i:Int) < (n:Int):=by omega
   have hw1:IntKind.i64.wrap ((i:Int)+1)=(i:Int)+1:=IntWalk.i64_in _ (by have:=aV.out; omega)
   clear hq hrc
   have hcc:rc < 0:=by
    have e:L[i]'(by omega)=(qx,qy,qd):=(List.getElem?_eq_some_iff.1 aJ.out).2
    rw [e] at hcr
    rw [←aR.out]; exact hcr
   clear hcr
   have hcl:decide (rc < 0)=true:=decide_eq_true hcc
   have HF:=hJ (put_less HI.out aJ.out (by show rcV qx qy qd X Y D < 0; rw [aR.out]; exact hcc))
   have aS:=hJ (bt bB.out aK.out)
   have aD:=hJ (BX.new aZ.out aS.out)
   have aG:=hJ (BX.new bC.out aK.out)
   have bK:Hid (∀ w',Below wl1.heap.size wl1 w'→(fun w':World=>w'.cell? ⟨g,i*3,none⟩=some (.int .i64 qx)∧w'.cell? ⟨g,i*3+1,none⟩=some (.int .i64 qy)∧w'.cell? ⟨g,i*3+2,none⟩=some (.int .i64 qd)∧w'.cell? ⟨w.heap.size,0,none⟩=some (.int .i64 X)∧w'.cell? ⟨w.heap.size,1,none⟩=some (.int .i64 Y)∧w'.cell? ⟨w.heap.size,2,none⟩=some (.int .i64 D)∧Below wl1.heap.size wl1 w') w'):=hJ (fun w' hb=>⟨(BX.new aD.out hb).cell (i*3) aL.out,(BX.new aD.out hb).cell (i*3+1) aM.out,(BX.new aD.out hb).cell (i*3+2) aO.out,(BX.new aG.out hb).cell 0 rfl,(BX.new aG.out hb).cell 1 rfl,(BX.new aG.out hb).cell 2 rfl,hb⟩)
   go_wp2_with fail
   obtain ⟨v7,hv7⟩:=nmz (World.drew wl1)
   have bP:=hJ (show Below wl1.heap.size wl1 v7 by rw [←hv7]; exact (Below.refl _ _).drew)
   refine whd bK hv7 (fun hHeld=>?_)
   clear hv7
   refine tq 0 ?_
   refine tq 1 ?_
   refine tq 2 ?_
   refine tq 3 ?_
   refine tq 4 ?_
   refine tq 5 ?_
   refine tq 6 ?_
   refine tq 7 ?_
   refine tq 8 ?_
   refine tq 9 ?_
   try simp only [PT]
   refine ryy [10] ?_
   refine .cons rfl (fun K hK=>?_) .nil
   go_simp
   go_at_call 88
   refine (rcmp7_any qx qy qd X Y D v7 bD.out bJ.out).mono ?_
   rw [aR.out]
   rintro e v8 ⟨rfl,hb⟩
   have bQ:=hJ hb
   clear hb
   go_wp2_with fail
   have bL:=hJ (bt bP.out bQ.out)
   clear hHeld
   refine hK.out _ _ (bK.out _ bL.out) (fun hHeld=>?_)
   clear hK K
   refine tq 11 ?_
   refine tq 12 ?_
   try simp only [PT]
   refine wpAnyH_done (by kernel_rfl) ?_ _
   clear hHeld
   have bR:=hJ (bt aK.out bL.out)
   go_wp2_with fail
   go_roundw
   case rel=>exact ⟨i+1,by omega,by go_num,bR.out,HF⟩
   case measure=>simp [intOf] <;> omega
  ·obtain ⟨qx,qy,qd,hq⟩:=get3 HN.out hlt
   have aL:=hJ (cur_get HT.out (p3V_getl hq).1)
   have aM:=hJ (cur_get HT.out (p3V_getl hq).2.1)
   have aO:=hJ (cur_get HT.out (p3V_getl hq).2.2)
   have bD:=hJ (show Rb qx qy qd from bH.out _ (List.mem_of_getElem? hq))
   obtain ⟨rc,hrc⟩:=nmz (rcV qx qy qd X Y D)
   have aR:=hJ hrc
   have aJ:=hJ hq
   have hlt2:(i:Int) < (n:Int):=by omega
   have hw1:IntKind.i64.wrap ((i:Int)+1)=(i:Int)+1:=IntWalk.i64_in _ (by have:=aV.out; omega)
   clear hq hrc
   have hcc:¬ rc < 0:=by
    have e:L[i]'(by omega)=(qx,qy,qd):=(List.getElem?_eq_some_iff.1 aJ.out).2
    rw [e] at hcr
    rw [←aR.out]; exact hcr
   clear hcr
   have hcl:decide (rc < 0)=false:=decide_eq_false hcc
   have aY:=hJ (show 0≤rcV qx qy qd X Y D by rw [aR.out]; omega)
   have aS:=hJ (bt bB.out aK.out)
   have aD:=hJ (BX.new aZ.out aS.out)
   have aG:=hJ (BX.new bC.out aK.out)
   have bM:Hid (∀ w',Below wl1.heap.size wl1 w'→(fun w':World=>w'.cell? ⟨g,i*3,none⟩=some (.int .i64 qx)∧w'.cell? ⟨g,i*3+1,none⟩=some (.int .i64 qy)∧w'.cell? ⟨g,i*3+2,none⟩=some (.int .i64 qd)∧w'.cell? ⟨w.heap.size,0,none⟩=some (.int .i64 X)∧w'.cell? ⟨w.heap.size,1,none⟩=some (.int .i64 Y)∧w'.cell? ⟨w.heap.size,2,none⟩=some (.int .i64 D)∧Below wl1.heap.size wl1 w') w'):=hJ (fun w' hb=>⟨(BX.new aD.out hb).cell (i*3) aL.out,(BX.new aD.out hb).cell (i*3+1) aM.out,(BX.new aD.out hb).cell (i*3+2) aO.out,(BX.new aG.out hb).cell 0 rfl,(BX.new aG.out hb).cell 1 rfl,(BX.new aG.out hb).cell 2 rfl,hb⟩)
   go_wp2_with fail
   obtain ⟨v9,hv9⟩:=nmz (World.drew wl1)
   have bS:=hJ (show Below wl1.heap.size wl1 v9 by rw [←hv9]; exact (Below.refl _ _).drew)
   refine whd bM hv9 (fun hHeld=>?_)
   clear hv9
   refine tq 0 ?_
   refine tq 1 ?_
   refine tq 2 ?_
   refine tq 3 ?_
   refine tq 4 ?_
   refine tq 5 ?_
   refine tq 6 ?_
   refine tq 7 ?_
   refine tq 8 ?_
   refine tq 9 ?_
   try simp only [PT]
   refine ryy [10] ?_
   refine .cons rfl (fun K hK=>?_) .nil
   go_simp
   go_at_call 88
   refine (rcmp7_any qx qy qd X Y D v9 bD.out bJ.out).mono ?_
   rw [aR.out]
   rintro e v10 ⟨rfl,hb⟩
   have bT:=hJ hb
   clear hb
   go_wp2_with fail
   have aC:=hJ (bt bS.out bT.out)
   clear hHeld
   refine hK.out _ _ (bM.out _ aC.out) (fun hHeld=>?_)
   clear hK K
   refine tq 11 ?_
   refine tq 12 ?_
   try simp only [PT]
   refine wpAnyH_done (by kernel_rfl) ?_ _
   clear hHeld
   rcases (show (X=qx∧Y=qy∧D=qd)∨¬ qx=X∨(X=qx∧¬ qy=Y)∨(X=qx∧Y=qy∧¬ qd=D) by omega) with ⟨h1,h2,h3⟩ | h1 | ⟨h1,h2⟩ | ⟨h1,h2,h3⟩
   ·obtain rfl:=h1
    obtain rfl:=h2
    obtain rfl:=h3
    have bU:=hJ (put_same HI.out aJ.out (Int.not_lt.2 aY.out) rfl)
    have aA:=hJ (BX.new aD.out aC.out)
    have aB:=hJ (BX.new aG.out aC.out)
    have bV:Hid (∀ w',Below v10.heap.size v10 w'→(fun w':World=>w'.cell? ⟨g,i*3,none⟩=some (.int .i64 X)∧w'.cell? ⟨g,i*3+1,none⟩=some (.int .i64 Y)∧w'.cell? ⟨g,i*3+2,none⟩=some (.int .i64 D)∧w'.cell? ⟨w.heap.size,0,none⟩=some (.int .i64 X)∧w'.cell? ⟨w.heap.size,1,none⟩=some (.int .i64 Y)∧w'.cell? ⟨w.heap.size,2,none⟩=some (.int .i64 D)∧Below v10.heap.size v10 w') w'):=hJ (fun w' hb=>⟨(BX.new aA.out hb).cell (i*3) aL.out,(BX.new aA.out hb).cell (i*3+1) aM.out,(BX.new aA.out hb).cell (i*3+2) aO.out,(BX.new aB.out hb).cell 0 rfl,(BX.new aB.out hb).cell 1 rfl,(BX.new aB.out hb).cell 2 rfl,hb⟩)
    go_wp2_with fail
    obtain ⟨v11,hv11⟩:=nmz (World.drew v10)
    have bW:=hJ (show Below v10.heap.size v10 v11 by rw [←hv11]; exact (Below.refl _ _).drew)
    refine whd bV hv11 (fun hHeld=>?_)
    clear hv11
    refine tq 0 ?_
    refine tq 1 ?_
    refine tq 2 ?_
    refine tq 3 ?_
    refine tq 4 ?_
    refine tq 5 ?_
    refine tq 6 ?_
    refine tq 7 ?_
    refine tq 8 ?_
    refine tq 9 ?_
    refine tq 10 ?_
    refine tq 11 ?_
    try simp only [PT]
    refine wpAnyH_done (by kernel_rfl) ?_ _
    clear hHeld
    have aH:=hJ (bt (bt aS.out aC.out) bW.out)
    go_wp2
    go_ret
    exact ⟨.slice (some ⟨g,0,none⟩) n cap,rfl,by rw [bU.out]; exact own7_new HO.out aH.out,aH.out⟩
   ·have aT:=hJ (put_more HI.out aJ.out (Int.not_lt.2 aY.out) (fun e=>h1 (congrArg (fun z:Tr=>z.1) e)))
    have aA:=hJ (BX.new aD.out aC.out)
    have aB:=hJ (BX.new aG.out aC.out)
    have bX:Hid (∀ w',Below v10.heap.size v10 w'→(fun w':World=>w'.cell? ⟨g,i*3,none⟩=some (.int .i64 qx)∧w'.cell? ⟨g,i*3+1,none⟩=some (.int .i64 qy)∧w'.cell? ⟨g,i*3+2,none⟩=some (.int .i64 qd)∧w'.cell? ⟨w.heap.size,0,none⟩=some (.int .i64 X)∧w'.cell? ⟨w.heap.size,1,none⟩=some (.int .i64 Y)∧w'.cell? ⟨w.heap.size,2,none⟩=some (.int .i64 D)∧Below v10.heap.size v10 w') w'):=hJ (fun w' hb=>⟨(BX.new aA.out hb).cell (i*3) aL.out,(BX.new aA.out hb).cell (i*3+1) aM.out,(BX.new aA.out hb).cell (i*3+2) aO.out,(BX.new aB.out hb).cell 0 rfl,(BX.new aB.out hb).cell 1 rfl,(BX.new aB.out hb).cell 2 rfl,hb⟩)
    go_wp2_with fail
    obtain ⟨v12,hv12⟩:=nmz (World.drew v10)
    have bE:=hJ (show Below v10.heap.size v10 v12 by rw [←hv12]; exact (Below.refl _ _).drew)
    refine whd bX hv12 (fun hHeld=>?_)
    clear hv12
    refine tq 0 ?_
    refine tq 1 ?_
    refine tq 2 ?_
    refine tq 3 ?_
    refine tq 4 ?_
    refine tq 5 ?_
    refine tq 6 ?_
    refine tq 7 ?_
    refine tq 8 ?_
    refine tq 9 ?_
    refine tq 10 ?_
    refine tq 11 ?_
    try simp only [PT]
    refine wpAnyH_done (by kernel_rfl) ?_ _
    clear hHeld
    have aU:=hJ (BX.new aB.out bE.out)
    have aH:=hJ (bt (bt aS.out aC.out) bE.out)
    have aI:=hJ (BX.new aA.out bE.out)
    go_upto_region 6 with fail
    refine wp_mono (put_tB L X Y D i n cap g w.heap.size w v12 aU HN.out (by have:=aV.out; omega) (by omega) aW.out (hJ (fun j u hu=>aI.out.cell j (cur_get HT.out hu))) aI.out.lt (hJ aH.out) (fun e w'=>∃ v',e=.returned v'∧RowT B w' v' (put7 L (X,Y,D))∧Below w.heap.size w w') (fun v' w' h hb=>⟨v',rfl,by rw [aT.out]; exact own7_mono h aX.out,hb⟩) _ (by assumption)) (fun e a w h=>by cases e <;> exact h)
   ·obtain rfl:=h1
    have aT:=hJ (put_more HI.out aJ.out (Int.not_lt.2 aY.out) (fun e=>h2 (congrArg (fun z:Tr=>z.2.1) e)))
    have aA:=hJ (BX.new aD.out aC.out)
    have aB:=hJ (BX.new aG.out aC.out)
    have bY:Hid (∀ w',Below v10.heap.size v10 w'→(fun w':World=>w'.cell? ⟨g,i*3,none⟩=some (.int .i64 X)∧w'.cell? ⟨g,i*3+1,none⟩=some (.int .i64 qy)∧w'.cell? ⟨g,i*3+2,none⟩=some (.int .i64 qd)∧w'.cell? ⟨w.heap.size,0,none⟩=some (.int .i64 X)∧w'.cell? ⟨w.heap.size,1,none⟩=some (.int .i64 Y)∧w'.cell? ⟨w.heap.size,2,none⟩=some (.int .i64 D)∧Below v10.heap.size v10 w') w'):=hJ (fun w' hb=>⟨(BX.new aA.out hb).cell (i*3) aL.out,(BX.new aA.out hb).cell (i*3+1) aM.out,(BX.new aA.out hb).cell (i*3+2) aO.out,(BX.new aB.out hb).cell 0 rfl,(BX.new aB.out hb).cell 1 rfl,(BX.new aB.out hb).cell 2 rfl,hb⟩)
    go_wp2_with fail
    obtain ⟨v13,hv13⟩:=nmz (World.drew v10)
    have bF:=hJ (show Below v10.heap.size v10 v13 by rw [←hv13]; exact (Below.refl _ _).drew)
    refine whd bY hv13 (fun hHeld=>?_)
    clear hv13
    refine tq 0 ?_
    refine tq 1 ?_
    refine tq 2 ?_
    refine tq 3 ?_
    refine tq 4 ?_
    refine tq 5 ?_
    refine tq 6 ?_
    refine tq 7 ?_
    refine tq 8 ?_
    refine tq 9 ?_
    refine tq 10 ?_
    refine tq 11 ?_
    try simp only [PT]
    refine wpAnyH_done (by kernel_rfl) ?_ _
    clear hHeld
    have aU:=hJ (BX.new aB.out bF.out)
    have aH:=hJ (bt (bt aS.out aC.out) bF.out)
    have aI:=hJ (BX.new aA.out bF.out)
    go_upto_region 6 with fail
    refine wp_mono (put_tB L X Y D i n cap g w.heap.size w v13 aU HN.out (by have:=aV.out; omega) (by omega) aW.out (hJ (fun j u hu=>aI.out.cell j (cur_get HT.out hu))) aI.out.lt (hJ aH.out) (fun e w'=>∃ v',e=.returned v'∧RowT B w' v' (put7 L (X,Y,D))∧Below w.heap.size w w') (fun v' w' h hb=>⟨v',rfl,by rw [aT.out]; exact own7_mono h aX.out,hb⟩) _ (by assumption)) (fun e a w h=>by cases e <;> exact h)
   obtain rfl:=h1
   obtain rfl:=h2
   have aT:=hJ (put_more HI.out aJ.out (Int.not_lt.2 aY.out) (fun e=>h3 (congrArg (fun z:Tr=>z.2.2) e)))
   have aA:=hJ (BX.new aD.out aC.out)
   have aB:=hJ (BX.new aG.out aC.out)
   have bZ:Hid (∀ w',Below v10.heap.size v10 w'→(fun w':World=>w'.cell? ⟨g,i*3,none⟩=some (.int .i64 X)∧w'.cell? ⟨g,i*3+1,none⟩=some (.int .i64 Y)∧w'.cell? ⟨g,i*3+2,none⟩=some (.int .i64 qd)∧w'.cell? ⟨w.heap.size,0,none⟩=some (.int .i64 X)∧w'.cell? ⟨w.heap.size,1,none⟩=some (.int .i64 Y)∧w'.cell? ⟨w.heap.size,2,none⟩=some (.int .i64 D)∧Below v10.heap.size v10 w') w'):=hJ (fun w' hb=>⟨(BX.new aA.out hb).cell (i*3) aL.out,(BX.new aA.out hb).cell (i*3+1) aM.out,(BX.new aA.out hb).cell (i*3+2) aO.out,(BX.new aB.out hb).cell 0 rfl,(BX.new aB.out hb).cell 1 rfl,(BX.new aB.out hb).cell 2 rfl,hb⟩)
   go_wp2_with fail
   obtain ⟨v14,hv14⟩:=nmz (World.drew v10)
   have bG:=hJ (show Below v10.heap.size v10 v14 by rw [←hv14]; exact (Below.refl _ _).drew)
   refine whd bZ hv14 (fun hHeld=>?_)
   clear hv14
   refine tq 0 ?_
   refine tq 1 ?_
   refine tq 2 ?_
   refine tq 3 ?_
   refine tq 4 ?_
   refine tq 5 ?_
   refine tq 6 ?_
   refine tq 7 ?_
   refine tq 8 ?_
   refine tq 9 ?_
   refine tq 10 ?_
   refine tq 11 ?_
   try simp only [PT]
   refine wpAnyH_done (by kernel_rfl) ?_ _
   clear hHeld
   have aU:=hJ (BX.new aB.out bG.out)
   have aH:=hJ (bt (bt aS.out aC.out) bG.out)
   have aI:=hJ (BX.new aA.out bG.out)
   go_upto_region 6 with fail
   refine wp_mono (put_tB L X Y D i n cap g w.heap.size w v14 aU HN.out (by have:=aV.out; omega) (by omega) aW.out (hJ (fun j u hu=>aI.out.cell j (cur_get HT.out hu))) aI.out.lt (hJ aH.out) (fun e w'=>∃ v',e=.returned v'∧RowT B w' v' (put7 L (X,Y,D))∧Below w.heap.size w w') (fun v' w' h hb=>⟨v',rfl,by rw [aT.out]; exact own7_mono h aX.out,hb⟩) _ (by assumption)) (fun e a w h=>by cases e <;> exact h)
  ·have hlt2:¬ (i:Int) < (n:Int):=by omega
   have cA:Hid (∀ w',Below wl1.heap.size wl1 w'→(fun w':World=>Below wl1.heap.size wl1 w') w'):=hJ (fun w' hb=>hb)
   go_wp2_with fail
   obtain ⟨v15,hv15⟩:=nmz (World.drew wl1)
   have bN:=hJ (show Below wl1.heap.size wl1 v15 by rw [←hv15]; exact (Below.refl _ _).drew)
   refine whd cA hv15 (fun hHeld=>?_)
   clear hv15
   refine tq 0 ?_
   refine tq 1 ?_
   refine tq 2 ?_
   refine tq 3 ?_
   refine tq 4 ?_
   try simp only [PT]
   refine wpAnyH_take (i:=5) (v:=undef) rfl (by kernel_rfl) (by kernel_rfl) (by kernel_rfl) (fun _ _ _ h=>h) (Or.inr ⟨by kernel_rfl,rfl⟩) (by assumption) ?_
   try simp only [PT]
   refine wpAnyH_take (i:=6) (v:=undef) rfl (by kernel_rfl) (by kernel_rfl) (by kernel_rfl) (fun _ _ _ h=>h) (Or.inr ⟨by kernel_rfl,rfl⟩) (by assumption) ?_
   try simp only [PT]
   refine wpAnyH_take (i:=7) (v:=undef) rfl (by kernel_rfl) (by kernel_rfl) (by kernel_rfl) (fun _ _ _ h=>h) (Or.inr ⟨by kernel_rfl,rfl⟩) (by assumption) ?_
   try simp only [PT]
   refine wpAnyH_take (i:=8) (v:=undef) rfl (by kernel_rfl) (by kernel_rfl) (by kernel_rfl) (fun _ _ _ h=>h) (Or.inr ⟨by kernel_rfl,rfl⟩) (by assumption) ?_
   try simp only [PT]
   refine wpAnyH_take (i:=9) (v:=undef) rfl (by kernel_rfl) (by kernel_rfl) (by kernel_rfl) (fun _ _ _ h=>h) (Or.inr ⟨by kernel_rfl,rfl⟩) (by assumption) ?_
   try simp only [PT]
   refine wpAnyH_take (i:=10) (v:=undef) rfl (by kernel_rfl) (by kernel_rfl) (by kernel_rfl) (fun _ _ _ h=>h) (Or.inr ⟨by kernel_rfl,rfl⟩) (by assumption) ?_
   try simp only [PT]
   refine wpAnyH_take (i:=11) (v:=undef) rfl (by kernel_rfl) (by kernel_rfl) (by kernel_rfl) (fun _ _ _ h=>h) (Or.inr ⟨by kernel_rfl,rfl⟩) (by assumption) ?_
   refine tq 12 ?_
   try simp only [PT]
   refine wpAnyH_done (by kernel_rfl) ?_ _
   clear hHeld
   have cB:Hid (∀ w',Below v15.heap.size v15 w'→(fun w':World=>Below v15.heap.size v15 w') w'):=hJ (fun w' hb=>hb)
   go_wp2_with fail
   obtain ⟨v16,hv16⟩:=nmz (World.drew v15)
   have bO:=hJ (show Below v15.heap.size v15 v16 by rw [←hv16]; exact (Below.refl _ _).drew)
   refine whd cB hv16 (fun hHeld=>?_)
   clear hv16
   refine tq 0 ?_
   refine tq 1 ?_
   refine tq 2 ?_
   refine tq 3 ?_
   refine tq 4 ?_
   try simp only [PT]
   refine wpAnyH_take (i:=5) (v:=undef) rfl (by kernel_rfl) (by kernel_rfl) (by kernel_rfl) (fun _ _ _ h=>h) (Or.inr ⟨by kernel_rfl,rfl⟩) (by assumption) ?_
   try simp only [PT]
   refine wpAnyH_take (i:=6) (v:=undef) rfl (by kernel_rfl) (by kernel_rfl) (by kernel_rfl) (fun _ _ _ h=>h) (Or.inr ⟨by kernel_rfl,rfl⟩) (by assumption) ?_
   try simp only [PT]
   refine wpAnyH_take (i:=7) (v:=undef) rfl (by kernel_rfl) (by kernel_rfl) (by kernel_rfl) (fun _ _ _ h=>h) (Or.inr ⟨by kernel_rfl,rfl⟩) (by assumption) ?_
   try simp only [PT]
   refine wpAnyH_take (i:=8) (v:=undef) rfl (by kernel_rfl) (by kernel_rfl) (by kernel_rfl) (fun _ _ _ h=>h) (Or.inr ⟨by kernel_rfl,rfl⟩) (by assumption) ?_
   try simp only [PT]
   refine wpAnyH_take (i:=9) (v:=undef) rfl (by kernel_rfl) (by kernel_rfl) (by kernel_rfl) (fun _ _ _ h=>h) (Or.inr ⟨by kernel_rfl,rfl⟩) (by assumption) ?_
   try simp only [PT]
   refine wpAnyH_take (i:=10) (v:=undef) rfl (by kernel_rfl) (by kernel_rfl) (by kernel_rfl) (fun _ _ _ h=>h) (Or.inr ⟨by kernel_rfl,rfl⟩) (by assumption) ?_
   refine tq 11 ?_
   try simp only [PT]
   refine wpAnyH_done (by kernel_rfl) ?_ _
   clear hHeld
   have cC:=hJ (bt (bt aK.out bN.out) bO.out)
   have aU:=hJ (BX.new bC.out cC.out)
   have aH:=hJ (bt (bt (bt bB.out aK.out) bN.out) bO.out)
   have aI:=hJ (BX.new aZ.out aH.out)
   have aT:=hJ (show put7 L (X,Y,D)=L.take n ++ (X,Y,D) :: L.drop n by
    have h:=HI.out
    rw [hlt,←HN.out] at h
    rw [←HN.out]
    exact put_end h)
   go_upto_region 6 with fail
   refine wp_mono (put_tB L X Y D n n cap g w.heap.size w v16 aU HN.out (by have:=aV.out; omega) (by omega) aW.out (hJ (fun j u hu=>aI.out.cell j (cur_get HT.out hu))) aI.out.lt (hJ aH.out) (fun e w'=>∃ v',e=.returned v'∧RowT B w' v' (put7 L (X,Y,D))∧Below w.heap.size w w') (fun v' w' h hb=>⟨v',rfl,by rw [aT.out]; exact own7_mono h aX.out,hb⟩) _ (by assumption)) (fun e a w h=>by cases e <;> exact h)
end Go.Proofs.YtdgicnhadecldaaGreat
