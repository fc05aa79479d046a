/- The reference's Meet. Conditions: as each statement has them. -/
import Derived.Test.YtdgicnhadecldaaGreatKB2
import Derived.Test.YtdgicnhadecldaaGreatKB5
import Derived.Test.YtdgicnhadecldaaGreatKCF
import Derived.Test.YtdgicnhadecldaaGreatKCP
import Derived.Test.YtdgicnhadecldaaGreatKCY
import Derived.Test.YtdgicnhadecldaaGreatKCZ
import Derived.Test.YtdgicnhadecldaaGreatKDA
import Derived.Test.YtdgicnhadecldaaGreatKDC
import Derived.Test.YtdgicnhadecldaaGreatKDD
import Derived.Test.YtdgicnhadecldaaGreatKDE
import Derived.Test.YtdgicnhadecldaaGreatKDF
import Derived.Test.YtdgicnhadecldaaGreatKDH
import Derived.Test.YtdgicnhadecldaaGreatKDI
import Derived.Test.YtdgicnhadecldaaGreatKEA
import Derived.Test.YtdgicnhadecldaaGreatKFD
import Derived.Test.YtdgicnhadecldaaGreatKYA
namespace Go.Proofs.YtdgicnhadecldaaGreat
open Go.RowKit
attribute [local go_sem ↓] Go.wp_at_zero Go.wp_at_succ
set_option linter.unusedVariables false
set_option linter.unusedSimpArgs false
theorem sp_i6 {ax ay bx by' cx cy dx dy:Int} (hs:Sp ax ay bx by') (ht:Sp cx cy dx dy):((I6 (bx - ax)∧I6 (by' - ay)∧I6 (dx - cx)∧I6 (dy - cy))∧(I6 ((bx - ax)*(dy - cy))∧I6 ((by' - ay)*(dx - cx))∧I6 (rD ax ay bx by' cx cy dx dy))∧(I6 (cx - ax)∧I6 (cy - ay)∧I6 ((cx - ax)*(dy - cy))∧I6 ((cy - ay)*(dx - cx))∧I6 (rN ax ay bx by' cx cy dx dy)))∧(I6 (ax*rD ax ay bx by' cx cy dx dy)∧I6 ((bx - ax)*rN ax ay bx by' cx cy dx dy)∧I6 (ay*rD ax ay bx by' cx cy dx dy)∧I6 ((by' - ay)*rN ax ay bx by' cx cy dx dy))∧((-100000000≤rX ax ay bx by' cx cy dx dy∧rX ax ay bx by' cx cy dx dy≤100000000)∧(-100000000≤rY ax ay bx by' cx cy dx dy∧rY ax ay bx by' cx cy dx dy≤100000000))∧(-100000≤rD ax ay bx by' cx cy dx dy∧rD ax ay bx by' cx cy dx dy≤100000):=by
 obtain ⟨⟨a1,a2,a3,a4⟩,_⟩:=hs
 obtain ⟨⟨b1,b2,b3,b4⟩,_⟩:=ht
 have u1 : -200≤bx - ax∧bx - ax≤200:=by omega
 have u2 : -200≤by' - ay∧by' - ay≤200:=by omega
 have u3 : -200≤dx - cx∧dx - cx≤200:=by omega
 have u4 : -200≤dy - cy∧dy - cy≤200:=by omega
 have u5 : -200≤cx - ax∧cx - ax≤200:=by omega
 have u6 : -200≤cy - ay∧cy - ay≤200:=by omega
 have m1:=mul_in7 u1 u4
 have m2:=mul_in7 u2 u3
 have m3:=mul_in7 u5 u4
 have m4:=mul_in7 u6 u3
 have d1 : -80000≤rD ax ay bx by' cx cy dx dy∧rD ax ay bx by' cx cy dx dy≤80000:=by unfold rD; omega
 have d2 : -80000≤rN ax ay bx by' cx cy dx dy∧rN ax ay bx by' cx cy dx dy≤80000:=by unfold rN; omega
 have e1:=mul_in7 a1 d1
 have e2:=mul_in7 u1 d2
 have e3:=mul_in7 a2 d1
 have e4:=mul_in7 u2 d2
 have f1:rX ax ay bx by' cx cy dx dy=ax*rD ax ay bx by' cx cy dx dy+(bx - ax)*rN ax ay bx by' cx cy dx dy:=rfl
 have f2:rY ax ay bx by' cx cy dx dy=ay*rD ax ay bx by' cx cy dx dy+(by' - ay)*rN ax ay bx by' cx cy dx dy:=rfl
 rw [f1,f2]
 unfold I6
 omega
theorem mkz_rb {x y d X Y D:Int} (h:MkZ x y d X Y D) (hx : -100000000≤x∧x≤100000000) (hy : -100000000≤y∧y≤100000000) (hd : -100000≤d∧d≤100000):Rb X Y D:=by
 obtain ⟨g,hg,rfl,rfl,rfl,hD,_⟩:=h
 have k:∀ z:Int,z.natAbs≤(g*z).natAbs:=fun z=>by rw [Int.natAbs_mul]; exact Nat.le_mul_of_pos_left _ (by omega)
 have k1:=k X
 have k2:=k Y
 have k3:=k D
 unfold Rb
 omega
theorem own_form7 {w:World} {base:Nat} {e:TypeId} {size:Nat} {v:Value} (h:w.ownsRow base e size v ([]:List Tr).length (p3V [])):∃ a c,v=.slice a 0 c:=by
 rcases h.2 with ⟨rfl,_⟩ | ⟨g,cap,cur,rfl,_⟩
 ·exact ⟨none,0,rfl⟩
 ·exact ⟨_,_,rfl⟩
theorem rl_len {ax ay bx by' cx cy dx dy X Y D:Int} (hs:Sp ax ay bx by') (ht:Sp cx cy dx dy) (hd:rD ax ay bx by' cx cy dx dy≠0) (hz:MkZ (rX ax ay bx by' cx cy dx dy) (rY ax ay bx by' cx cy dx dy) (rD ax ay bx by' cx cy dx dy) X Y D):(com7 ax ay bx by' cx cy dx dy (re4 ax ay bx by' cx cy dx dy) (X,Y,D)).length≤2:=by
 have gd:Gd ax ay bx by' cx cy dx dy (re4 ax ay bx by' cx cy dx dy):=reK_gd ax ay bx by' cx cy dx dy 4 (by decide)
 rcases hl:re4 ax ay bx by' cx cy dx dy with _ | ⟨q,l⟩
 ·unfold com7
  split
  ·exact Nat.le_succ _
  exact Nat.zero_le _
 ·have hq:q ∈ re4 ax ay bx by' cx cy dx dy:=by rw [hl]; exact List.mem_cons_self ..
  obtain ⟨o1,o2,o3⟩:=re_on hq
  rw [o1] at o2 o3
  have l1:=((ro_is (by decide) hs.2).1 o2).1
  have l2:=((ro_is (by decide) ht.2).1 o3).1
  obtain ⟨c1,c2⟩:=on_cr l1 l2
  obtain ⟨G,hG,e1,e2,e3,hD,hlow⟩:=hz
  rw [e1,e3] at c1
  rw [e2,e3] at c2
  have f1:X=q.1*D:=Int.eq_of_mul_eq_mul_left hG (by grind)
  have f2:Y=q.2.1*D:=Int.eq_of_mul_eq_mul_left hG (by grind)
  have f3:=hlow ⟨_,by rw [f1,Int.mul_comm]⟩ ⟨_,by rw [f2,Int.mul_comm]⟩
  rw [f3,Int.mul_one] at f1 f2
  have eP:(X,Y,D)=q:=Prod.ext f1 (Prod.ext f2 (f3.trans o1.symm))
  rw [←hl,eP]
  exact (gd.com ((gd.2 q hq).2)).len hs.2 ht.2
set_option maxRecDepth 100000 in
set_option maxHeartbeats 12800000 in
theorem rmeet7_any (ax ay bx by' cx cy dx dy:Int) (w:World) (hs:Sp ax ay bx by') (ht:Sp cx cy dx dy) :
  Calls Tryz.prog 16 #[.agg #[.int .i64 ax,.int .i64 ay,.int .i64 bx,.int .i64 by'],.agg #[.int .i64 cx,.int .i64 cy,.int .i64 dx,.int .i64 dy]] w (fun e w'=>∃ QX QY QD:Int,(rD ax ay bx by' cx cy dx dy≠0→MkZ (rX ax ay bx by' cx cy dx dy) (rY ax ay bx by' cx cy dx dy) (rD ax ay bx by' cx cy dx dy) QX QY QD)∧e=.returned (.agg #[.int .i64 (rcu (rl7 ax ay bx by' cx cy dx dy (QX,QY,QD))).1,.int .i64 (rcu (rl7 ax ay bx by' cx cy dx dy (QX,QY,QD))).2.1.1,.int .i64 (rcu (rl7 ax ay bx by' cx cy dx dy (QX,QY,QD))).2.1.2.1,.int .i64 (rcu (rl7 ax ay bx by' cx cy dx dy (QX,QY,QD))).2.1.2.2,.int .i64 (rcu (rl7 ax ay bx by' cx cy dx dy (QX,QY,QD))).2.2.1,.int .i64 (rcu (rl7 ax ay bx by' cx cy dx dy (QX,QY,QD))).2.2.2.1,.int .i64 (rcu (rl7 ax ay bx by' cx cy dx dy (QX,QY,QD))).2.2.2.2])∧Below w.heap.size w w'):=by
 have aG:=hJ hs
 have aH:=hJ ht
 have HI:=hJ (sp_i6 hs ht)
 obtain ⟨rd,hrd⟩:=nmz (rD ax ay bx by' cx cy dx dy)
 obtain ⟨rn,hrn⟩:=nmz (rN ax ay bx by' cx cy dx dy)
 obtain ⟨rx,hrx⟩:=nmz (rX ax ay bx by' cx cy dx dy)
 obtain ⟨ry,hry⟩:=nmz (rY ax ay bx by' cx cy dx dy)
 have aR:=hJ hrd
 have cC:=hJ hrx
 have cD:=hJ hry
 have eQ:=hJ (show IntKind.i64.wrap ((bx - ax)*(dy - cy) - (by' - ay)*(dx - cx))=rd by rw [←hrd]; exact i6_wrap HI.out.1.2.1.2.2)
 have eR:=hJ (show IntKind.i64.wrap ((cx - ax)*(dy - cy) - (cy - ay)*(dx - cx))=rn by rw [←hrn]; exact i6_wrap HI.out.1.2.2.2.2.2.2)
 have cE:=hJ (show I6 (ax*rd)∧I6 ((bx - ax)*rn)∧I6 (ay*rd)∧I6 ((by' - ay)*rn) by rw [←hrd,←hrn]; exact HI.out.2.1)
 have aY:=hJ (show ((-100000000≤rx∧rx≤100000000)∧(-100000000≤ry∧ry≤100000000))∧(-100000≤rd∧rd≤100000) by rw [←hrx,←hry,←hrd]; exact HI.out.2.2)
 have eA:=hJ (show IntKind.i64.wrap (ax*rd+(bx - ax)*rn)=rx by rw [show ax*rd+(bx - ax)*rn=rx by rw [←hrx,←hrd,←hrn]; rfl]; exact i6_wrap (by have:=aY.out; unfold I6; omega))
 have eB:=hJ (show IntKind.i64.wrap (ay*rd+(by' - ay)*rn)=ry by rw [show ay*rd+(by' - ay)*rn=ry by rw [←hry,←hrd,←hrn]; rfl]; exact i6_wrap (by have:=aY.out; unfold I6; omega))
 clear hs ht hrd hrn hrx hry
 obtain ⟨x1,bP⟩:=nmz (((w.alloc (.cells #[.int .i64 ax,.int .i64 ay,.int .i64 bx,.int .i64 by'] 25)).alloc (.cells #[.int .i64 cx,.int .i64 cy,.int .i64 dx,.int .i64 dy] 25)).alloc (.cells #[.int .i64 0,.int .i64 0,.int .i64 0,.int .i64 0,.int .i64 0,.int .i64 0,.int .i64 0] 49))
 have eC:=hJ (show Below w.heap.size w x1 by rw [←bP]; exact ((((Below.refl _ _).alloc (Nat.le_refl _) _).alloc (by simp only [World.size_alloc]; omega) _).alloc (by simp only [World.size_alloc]; omega) _))
 have bB:=hJ (show BX 25 x1 w.heap.size #[.int .i64 ax,.int .i64 ay,.int .i64 bx,.int .i64 by'] by rw [←bP]; exact (((BX.at rfl).alloc _).alloc _))
 have bC:=hJ (show BX 25 x1 (w.heap.size+1) #[.int .i64 cx,.int .i64 cy,.int .i64 dx,.int .i64 dy] by rw [←bP]; exact ((BX.at (by simp only [World.size_alloc])).alloc _))
 have bD:=hJ (show BX 49 x1 (w.heap.size+2) #[.int .i64 0,.int .i64 0,.int .i64 0,.int .i64 0,.int .i64 0,.int .i64 0,.int .i64 0] by rw [←bP]; exact (BX.at (by simp only [World.size_alloc])))
 have aZ:=hJ (show w.heap.size≤w.heap.size+2 by omega)
 have eD:=hJ (show w.heap.size+2 < x1.heap.size from bD.out.lt)
 have bQ:=hJ (show x1.heap.size≤x1.heap.size from Nat.le_refl _)
 have eS:=hJ (show RowT x1.heap.size x1 (.slice none 0 0) (reK ax ay bx by' cx cy dx dy 0) from World.ownsRow_nil _ _ _ _)
 obtain ⟨eT,eU⟩:=bB.out.c2 0 1 rfl rfl
 obtain ⟨eV,eW⟩:=bB.out.c2 2 3 rfl rfl
 obtain ⟨eX,eY⟩:=bC.out.c2 0 1 rfl rfl
 obtain ⟨eZ,fA⟩:=bC.out.c2 2 3 rfl rfl
 obtain ⟨x10,dP⟩:=nmz (x1.alloc (.cells #[.int .i64 ax,.int .i64 ay,.int .i64 bx,.int .i64 by',.int .i64 cx,.int .i64 cy,.int .i64 dx,.int .i64 dy] 23))
 have bA:=hJ (show Below x1.heap.size x1 x10 by rw [←dP]; exact ((Below.refl _ _).alloc (Nat.le_refl _) _))
 have cF:=hJ (show BX 23 x10 x1.heap.size #[.int .i64 ax,.int .i64 ay,.int .i64 bx,.int .i64 by',.int .i64 cx,.int .i64 cy,.int .i64 dx,.int .i64 dy] by rw [←dP]; exact (BX.at rfl))
 have fB:=hJ (own7_new eS.out bA.out)
 go_enter Tryz.func16,Tryz.ntmps16
 go_wp2_with fail
 clear bP eT eU eV eW eX eY eZ fA dP
 go_loopw [7,5] (fun tv tx wr=>∃ (i:Nat) (vq:Value),vq=tx∧i≤4∧tv=.int .i64 (i:Int)∧Hid (RowT x1.heap.size wr vq (reK ax ay bx by' cx cy dx dy i))∧Below x10.heap.size x10 wr) (fun tv _ _=>4 - (intOf tv).toNat)
 case atStart=>exact ⟨0,_,rfl,by omega,rfl,fB,Below.refl _ _⟩
 case round =>
  obtain ⟨i7,vq7,rfl,hi,rfl,bH,hbel⟩:=hrel
  obtain ⟨wl7,rfl⟩:∃ W:World,W=wr:=⟨_,rfl⟩
  have aM:=hJ hbel
  clear hbel
  have hcs:i7=0∨i7=1∨i7=2∨i7=3∨i7=4:=by omega
  clear hi
  rcases hcs with rfl | rfl | rfl | rfl | rfl
  ·(try rw [show ((0:Nat):Int)=0 from rfl])
   have aJ:=hJ (bt bA.out aM.out)
   have aD:=hJ (BX.new bB.out aJ.out)
   have aI:=hJ (BX.new bC.out aJ.out)
   have aO:=hJ (BX.new cF.out aM.out)
   have dQ:Hid (∀ w',Below wl7.heap.size wl7 w'→(fun w':World=>w'.cell? ⟨w.heap.size,0,none⟩=some (.int .i64 ax)∧w'.cell? ⟨w.heap.size,1,none⟩=some (.int .i64 ay)∧w'.cell? ⟨w.heap.size,2,none⟩=some (.int .i64 bx)∧w'.cell? ⟨w.heap.size,3,none⟩=some (.int .i64 by')∧w'.cell? ⟨w.heap.size+1,0,none⟩=some (.int .i64 cx)∧w'.cell? ⟨w.heap.size+1,1,none⟩=some (.int .i64 cy)∧w'.cell? ⟨w.heap.size+1,2,none⟩=some (.int .i64 dx)∧w'.cell? ⟨w.heap.size+1,3,none⟩=some (.int .i64 dy)∧w'.cell? ⟨x1.heap.size,0,none⟩=some (.int .i64 ax)∧w'.cell? ⟨x1.heap.size,1,none⟩=some (.int .i64 ay)∧Below wl7.heap.size wl7 w') w'):=hJ (fun w' hb=>⟨(BX.new aD.out hb).cell 0 rfl,(BX.new aD.out hb).cell 1 rfl,(BX.new aD.out hb).cell 2 rfl,(BX.new aD.out hb).cell 3 rfl,(BX.new aI.out hb).cell 0 rfl,(BX.new aI.out hb).cell 1 rfl,(BX.new aI.out hb).cell 2 rfl,(BX.new aI.out hb).cell 3 rfl,(BX.new aO.out hb).cell 0 rfl,(BX.new aO.out hb).cell 1 rfl,hb⟩)
   have bE:=hJ (Nat.le_trans bQ.out (aJ.out).size)
   go_wp2_with fail
   obtain ⟨v16,hv16⟩:=nmz (World.drew wl7)
   have fC:=hJ (show Below wl7.heap.size wl7 v16 by rw [←hv16]; exact (Below.refl _ _).drew)
   refine whd dQ hv16 (fun hHeld=>?_)
   clear hv16
   refine tq 0 ?_
   refine tq 1 ?_
   refine tq 2 ?_
   refine tq 3 ?_
   refine tq 4 ?_
   refine tq 5 ?_
   refine tq 6 ?_
   try simp only [PT]
   refine ryy [7] ?_
   refine .cons rfl (fun K hK=>?_) .nil
   go_simp
   go_at_call 26
   refine (rof_any ax ay v16).mono ?_
   rintro e v17 ⟨rfl,hb⟩
   have fD:=hJ hb
   clear hb
   go_wp2_with fail
   have cG:=hJ (bt fC.out fD.out)
   clear hHeld
   refine hK.out _ _ (dQ.out _ cG.out) (fun hHeld=>?_)
   clear hK K
   try simp only [PT]
   refine ryy [8] ?_
   refine .cons rfl (fun K hK=>?_) .nil
   go_simp
   go_at_call 43
   refine (rcommon7_any ax ay bx by' cx cy dx dy ax ay 1 (reK ax ay bx by' cx cy dx dy 0) vq7 x1.heap.size v17 (own7_new bH.out cG.out) (Nat.le_trans bE.out (cG.out).size) (Gd.len aG.out.2 aH.out.2 (reK_gd ax ay bx by' cx cy dx dy 0 (by decide))) (gd_rb aG.out aH.out (reK_gd ax ay bx by' cx cy dx dy 0 (by decide))) (end_rb aG.out.1.1 aG.out.1.2.1) aG.out aH.out).mono ?_
   rintro e v18 ⟨vn,rfl,hrn,hb⟩
   have fE:=hJ hb
   have fF:=hJ hrn
   clear hb hrn
   go_wp2_with fail
   have eE:=hJ (bt cG.out fE.out)
   clear hHeld
   refine hK.out _ _ (dQ.out _ eE.out) (fun hHeld=>?_)
   clear hK K
   refine tq 9 ?_
   try simp only [PT]
   refine wpAnyH_done (by kernel_rfl) ?_ _
   clear hHeld
   have bF:=hJ (bt aM.out eE.out)
   go_wp2_with fail
   go_roundw
   case rel=>exact ⟨0+1,_,rfl,by omega,by go_num,fF,bF.out⟩
   case measure=>simp [intOf] <;> omega
  ·(try rw [show ((1:Nat):Int)=1 from rfl])
   have aJ:=hJ (bt bA.out aM.out)
   have aD:=hJ (BX.new bB.out aJ.out)
   have aI:=hJ (BX.new bC.out aJ.out)
   have aO:=hJ (BX.new cF.out aM.out)
   have dR:Hid (∀ w',Below wl7.heap.size wl7 w'→(fun w':World=>w'.cell? ⟨w.heap.size,0,none⟩=some (.int .i64 ax)∧w'.cell? ⟨w.heap.size,1,none⟩=some (.int .i64 ay)∧w'.cell? ⟨w.heap.size,2,none⟩=some (.int .i64 bx)∧w'.cell? ⟨w.heap.size,3,none⟩=some (.int .i64 by')∧w'.cell? ⟨w.heap.size+1,0,none⟩=some (.int .i64 cx)∧w'.cell? ⟨w.heap.size+1,1,none⟩=some (.int .i64 cy)∧w'.cell? ⟨w.heap.size+1,2,none⟩=some (.int .i64 dx)∧w'.cell? ⟨w.heap.size+1,3,none⟩=some (.int .i64 dy)∧w'.cell? ⟨x1.heap.size,2,none⟩=some (.int .i64 bx)∧w'.cell? ⟨x1.heap.size,3,none⟩=some (.int .i64 by')∧Below wl7.heap.size wl7 w') w'):=hJ (fun w' hb=>⟨(BX.new aD.out hb).cell 0 rfl,(BX.new aD.out hb).cell 1 rfl,(BX.new aD.out hb).cell 2 rfl,(BX.new aD.out hb).cell 3 rfl,(BX.new aI.out hb).cell 0 rfl,(BX.new aI.out hb).cell 1 rfl,(BX.new aI.out hb).cell 2 rfl,(BX.new aI.out hb).cell 3 rfl,(BX.new aO.out hb).cell 2 rfl,(BX.new aO.out hb).cell 3 rfl,hb⟩)
   have bE:=hJ (Nat.le_trans bQ.out (aJ.out).size)
   go_wp2_with fail
   obtain ⟨v19,hv19⟩:=nmz (World.drew wl7)
   have fG:=hJ (show Below wl7.heap.size wl7 v19 by rw [←hv19]; exact (Below.refl _ _).drew)
   refine whd dR hv19 (fun hHeld=>?_)
   clear hv19
   refine tq 0 ?_
   refine tq 1 ?_
   refine tq 2 ?_
   refine tq 3 ?_
   refine tq 4 ?_
   refine tq 5 ?_
   refine tq 6 ?_
   try simp only [PT]
   refine ryy [7] ?_
   refine .cons rfl (fun K hK=>?_) .nil
   go_simp
   go_at_call 26
   refine (rof_any bx by' v19).mono ?_
   rintro e v20 ⟨rfl,hb⟩
   have fH:=hJ hb
   clear hb
   go_wp2_with fail
   have cH:=hJ (bt fG.out fH.out)
   clear hHeld
   refine hK.out _ _ (dR.out _ cH.out) (fun hHeld=>?_)
   clear hK K
   try simp only [PT]
   refine ryy [8] ?_
   refine .cons rfl (fun K hK=>?_) .nil
   go_simp
   go_at_call 43
   refine (rcommon7_any ax ay bx by' cx cy dx dy bx by' 1 (reK ax ay bx by' cx cy dx dy 1) vq7 x1.heap.size v20 (own7_new bH.out cH.out) (Nat.le_trans bE.out (cH.out).size) (Gd.len aG.out.2 aH.out.2 (reK_gd ax ay bx by' cx cy dx dy 1 (by decide))) (gd_rb aG.out aH.out (reK_gd ax ay bx by' cx cy dx dy 1 (by decide))) (end_rb aG.out.1.2.2.1 aG.out.1.2.2.2) aG.out aH.out).mono ?_
   rintro e v21 ⟨vn,rfl,hrn,hb⟩
   have fI:=hJ hb
   have fJ:=hJ hrn
   clear hb hrn
   go_wp2_with fail
   have eF:=hJ (bt cH.out fI.out)
   clear hHeld
   refine hK.out _ _ (dR.out _ eF.out) (fun hHeld=>?_)
   clear hK K
   refine tq 9 ?_
   try simp only [PT]
   refine wpAnyH_done (by kernel_rfl) ?_ _
   clear hHeld
   have bF:=hJ (bt aM.out eF.out)
   go_wp2_with fail
   go_roundw
   case rel=>exact ⟨1+1,_,rfl,by omega,by go_num,fJ,bF.out⟩
   case measure=>simp [intOf] <;> omega
  ·(try rw [show ((2:Nat):Int)=2 from rfl])
   have aJ:=hJ (bt bA.out aM.out)
   have aD:=hJ (BX.new bB.out aJ.out)
   have aI:=hJ (BX.new bC.out aJ.out)
   have aO:=hJ (BX.new cF.out aM.out)
   have dS:Hid (∀ w',Below wl7.heap.size wl7 w'→(fun w':World=>w'.cell? ⟨w.heap.size,0,none⟩=some (.int .i64 ax)∧w'.cell? ⟨w.heap.size,1,none⟩=some (.int .i64 ay)∧w'.cell? ⟨w.heap.size,2,none⟩=some (.int .i64 bx)∧w'.cell? ⟨w.heap.size,3,none⟩=some (.int .i64 by')∧w'.cell? ⟨w.heap.size+1,0,none⟩=some (.int .i64 cx)∧w'.cell? ⟨w.heap.size+1,1,none⟩=some (.int .i64 cy)∧w'.cell? ⟨w.heap.size+1,2,none⟩=some (.int .i64 dx)∧w'.cell? ⟨w.heap.size+1,3,none⟩=some (.int .i64 dy)∧w'.cell? ⟨x1.heap.size,4,none⟩=some (.int .i64 cx)∧w'.cell? ⟨x1.heap.size,5,none⟩=some (.int .i64 cy)∧Below wl7.heap.size wl7 w') w'):=hJ (fun w' hb=>⟨(BX.new aD.out hb).cell 0 rfl,(BX.new aD.out hb).cell 1 rfl,(BX.new aD.out hb).cell 2 rfl,(BX.new aD.out hb).cell 3 rfl,(BX.new aI.out hb).cell 0 rfl,(BX.new aI.out hb).cell 1 rfl,(BX.new aI.out hb).cell 2 rfl,(BX.new aI.out hb).cell 3 rfl,(BX.new aO.out hb).cell 4 rfl,(BX.new aO.out hb).cell 5 rfl,hb⟩)
   have bE:=hJ (Nat.le_trans bQ.out (aJ.out).size)
   go_wp2_with fail
   obtain ⟨v22,hv22⟩:=nmz (World.drew wl7)
   have fK:=hJ (show Below wl7.heap.size wl7 v22 by rw [←hv22]; exact (Below.refl _ _).drew)
   refine whd dS hv22 (fun hHeld=>?_)
   clear hv22
   refine tq 0 ?_
   refine tq 1 ?_
   refine tq 2 ?_
   refine tq 3 ?_
   refine tq 4 ?_
   refine tq 5 ?_
   refine tq 6 ?_
   try simp only [PT]
   refine ryy [7] ?_
   refine .cons rfl (fun K hK=>?_) .nil
   go_simp
   go_at_call 26
   refine (rof_any cx cy v22).mono ?_
   rintro e v23 ⟨rfl,hb⟩
   have fL:=hJ hb
   clear hb
   go_wp2_with fail
   have cI:=hJ (bt fK.out fL.out)
   clear hHeld
   refine hK.out _ _ (dS.out _ cI.out) (fun hHeld=>?_)
   clear hK K
   try simp only [PT]
   refine ryy [8] ?_
   refine .cons rfl (fun K hK=>?_) .nil
   go_simp
   go_at_call 43
   refine (rcommon7_any ax ay bx by' cx cy dx dy cx cy 1 (reK ax ay bx by' cx cy dx dy 2) vq7 x1.heap.size v23 (own7_new bH.out cI.out) (Nat.le_trans bE.out (cI.out).size) (Gd.len aG.out.2 aH.out.2 (reK_gd ax ay bx by' cx cy dx dy 2 (by decide))) (gd_rb aG.out aH.out (reK_gd ax ay bx by' cx cy dx dy 2 (by decide))) (end_rb aH.out.1.1 aH.out.1.2.1) aG.out aH.out).mono ?_
   rintro e v24 ⟨vn,rfl,hrn,hb⟩
   have fM:=hJ hb
   have fN:=hJ hrn
   clear hb hrn
   go_wp2_with fail
   have eG:=hJ (bt cI.out fM.out)
   clear hHeld
   refine hK.out _ _ (dS.out _ eG.out) (fun hHeld=>?_)
   clear hK K
   refine tq 9 ?_
   try simp only [PT]
   refine wpAnyH_done (by kernel_rfl) ?_ _
   clear hHeld
   have bF:=hJ (bt aM.out eG.out)
   go_wp2_with fail
   go_roundw
   case rel=>exact ⟨2+1,_,rfl,by omega,by go_num,fN,bF.out⟩
   case measure=>simp [intOf] <;> omega
  ·(try rw [show ((3:Nat):Int)=3 from rfl])
   have aJ:=hJ (bt bA.out aM.out)
   have aD:=hJ (BX.new bB.out aJ.out)
   have aI:=hJ (BX.new bC.out aJ.out)
   have aO:=hJ (BX.new cF.out aM.out)
   have dT:Hid (∀ w',Below wl7.heap.size wl7 w'→(fun w':World=>w'.cell? ⟨w.heap.size,0,none⟩=some (.int .i64 ax)∧w'.cell? ⟨w.heap.size,1,none⟩=some (.int .i64 ay)∧w'.cell? ⟨w.heap.size,2,none⟩=some (.int .i64 bx)∧w'.cell? ⟨w.heap.size,3,none⟩=some (.int .i64 by')∧w'.cell? ⟨w.heap.size+1,0,none⟩=some (.int .i64 cx)∧w'.cell? ⟨w.heap.size+1,1,none⟩=some (.int .i64 cy)∧w'.cell? ⟨w.heap.size+1,2,none⟩=some (.int .i64 dx)∧w'.cell? ⟨w.heap.size+1,3,none⟩=some (.int .i64 dy)∧w'.cell? ⟨x1.heap.size,6,none⟩=some (.int .i64 dx)∧w'.cell? ⟨x1.heap.size,7,none⟩=some (.int .i64 dy)∧Below wl7.heap.size wl7 w') w'):=hJ (fun w' hb=>⟨(BX.new aD.out hb).cell 0 rfl,(BX.new aD.out hb).cell 1 rfl,(BX.new aD.out hb).cell 2 rfl,(BX.new aD.out hb).cell 3 rfl,(BX.new aI.out hb).cell 0 rfl,(BX.new aI.out hb).cell 1 rfl,(BX.new aI.out hb).cell 2 rfl,(BX.new aI.out hb).cell 3 rfl,(BX.new aO.out hb).cell 6 rfl,(BX.new aO.out hb).cell 7 rfl,hb⟩)
   have bE:=hJ (Nat.le_trans bQ.out (aJ.out).size)
   go_wp2_with fail
   obtain ⟨v25,hv25⟩:=nmz (World.drew wl7)
   have fO:=hJ (show Below wl7.heap.size wl7 v25 by rw [←hv25]; exact (Below.refl _ _).drew)
   refine whd dT hv25 (fun hHeld=>?_)
   clear hv25
   refine tq 0 ?_
   refine tq 1 ?_
   refine tq 2 ?_
   refine tq 3 ?_
   refine tq 4 ?_
   refine tq 5 ?_
   refine tq 6 ?_
   try simp only [PT]
   refine ryy [7] ?_
   refine .cons rfl (fun K hK=>?_) .nil
   go_simp
   go_at_call 26
   refine (rof_any dx dy v25).mono ?_
   rintro e v26 ⟨rfl,hb⟩
   have fP:=hJ hb
   clear hb
   go_wp2_with fail
   have cJ:=hJ (bt fO.out fP.out)
   clear hHeld
   refine hK.out _ _ (dT.out _ cJ.out) (fun hHeld=>?_)
   clear hK K
   try simp only [PT]
   refine ryy [8] ?_
   refine .cons rfl (fun K hK=>?_) .nil
   go_simp
   go_at_call 43
   refine (rcommon7_any ax ay bx by' cx cy dx dy dx dy 1 (reK ax ay bx by' cx cy dx dy 3) vq7 x1.heap.size v26 (own7_new bH.out cJ.out) (Nat.le_trans bE.out (cJ.out).size) (Gd.len aG.out.2 aH.out.2 (reK_gd ax ay bx by' cx cy dx dy 3 (by decide))) (gd_rb aG.out aH.out (reK_gd ax ay bx by' cx cy dx dy 3 (by decide))) (end_rb aH.out.1.2.2.1 aH.out.1.2.2.2) aG.out aH.out).mono ?_
   rintro e v27 ⟨vn,rfl,hrn,hb⟩
   have fQ:=hJ hb
   have fR:=hJ hrn
   clear hb hrn
   go_wp2_with fail
   have eH:=hJ (bt cJ.out fQ.out)
   clear hHeld
   refine hK.out _ _ (dT.out _ eH.out) (fun hHeld=>?_)
   clear hK K
   refine tq 9 ?_
   try simp only [PT]
   refine wpAnyH_done (by kernel_rfl) ?_ _
   clear hHeld
   have bF:=hJ (bt aM.out eH.out)
   go_wp2_with fail
   go_roundw
   case rel=>exact ⟨3+1,_,rfl,by omega,by go_num,fR,bF.out⟩
   case measure=>simp [intOf] <;> omega
  ·(try rw [show ((4:Nat):Int)=4 from rfl])
   have aJ:=hJ (bt bA.out aM.out)
   have aD:=hJ (BX.new bB.out aJ.out)
   have cK:=aD.out.cell 2 rfl
   have cL:=aD.out.cell 0 rfl
   have cM:IntKind.i64.wrap (bx - ax)=bx - ax:=i6_wrap HI.out.1.1.1
   have cN:=aD.out.cell 3 rfl
   have cO:=aD.out.cell 1 rfl
   have cP:IntKind.i64.wrap (by' - ay)=by' - ay:=i6_wrap HI.out.1.1.2.1
   obtain ⟨x32,bJ⟩:=nmz (wl7.alloc (.cells #[.int .i64 (bx - ax),.int .i64 (by' - ay)] 23))
   have bR:=hJ (show Below wl7.heap.size wl7 x32 by rw [←bJ]; exact ((Below.refl _ _).alloc (Nat.le_refl _) _))
   have fS:=hJ (show BX 23 x32 wl7.heap.size #[.int .i64 (bx - ax),.int .i64 (by' - ay)] by rw [←bJ]; exact (BX.at rfl))
   have bS:=hJ (bt aJ.out bR.out)
   have bT:=hJ (BX.new bC.out bS.out)
   have cQ:=bT.out.cell 2 rfl
   have cR:=bT.out.cell 0 rfl
   have cS:IntKind.i64.wrap (dx - cx)=dx - cx:=i6_wrap HI.out.1.1.2.2.1
   have cT:=bT.out.cell 3 rfl
   have cU:=bT.out.cell 1 rfl
   have cV:IntKind.i64.wrap (dy - cy)=dy - cy:=i6_wrap HI.out.1.1.2.2.2
   obtain ⟨x37,bK⟩:=nmz (x32.alloc (.cells #[.int .i64 (dx - cx),.int .i64 (dy - cy)] 23))
   have aS:=hJ (show Below x32.heap.size x32 x37 by rw [←bK]; exact ((Below.refl _ _).alloc (Nat.le_refl _) _))
   have cW:=hJ (show BX 23 x37 x32.heap.size #[.int .i64 (dx - cx),.int .i64 (dy - cy)] by rw [←bK]; exact (BX.at rfl))
   have cX:=hJ (BX.new fS.out aS.out)
   have cY:=cX.out.cell 0 rfl
   have cZ:=cW.out.cell 1 rfl
   have dA:IntKind.i64.wrap ((bx - ax)*(dy - cy))=(bx - ax)*(dy - cy):=i6_wrap HI.out.1.2.1.1
   have dB:=cX.out.cell 1 rfl
   have dD:=cW.out.cell 0 rfl
   have dE:IntKind.i64.wrap ((by' - ay)*(dx - cx))=(by' - ay)*(dx - cx):=i6_wrap HI.out.1.2.1.2.1
   have dG:=eQ.out
   by_cases hc:rd=0
   ·have dH:=hJ hc
    subst hc
    have dI:=hJ (bt bR.out aS.out)
    have dU:=hJ (own7_new bH.out dI.out)
    have bU:=hJ (bt (bt (bt (bt eC.out bA.out) aM.out) bR.out) aS.out)
    have dW:=hJ (show rl7 ax ay bx by' cx cy dx dy (0,0,1)=reK ax ay bx by' cx cy dx dy 4 from if_neg (fun h=>h aR.out))
    have dX:=hJ (Gd.len aG.out.2 aH.out.2 (reK_gd ax ay bx by' cx cy dx dy 4 (by decide)))
    obtain ⟨LL,hLL⟩:=nmz ((reK ax ay bx by' cx cy dx dy 4))
    have hrw:=dU.out
    have hgl:=dX.out
    have hrl:=dW.out
    rw [hLL] at hrw hgl hrl
    have bG:=hJ hrl
    clear hrl hLL
    rcases (show LL=[]∨(∃ a,LL=[a])∨(∃ a b,LL=[a,b]) from by
     match LL,hgl with
     | [],_=>exact .inl rfl
     | [a],_=>exact .inr (.inl ⟨a,rfl⟩)
     | [a,b],_=>exact .inr (.inr ⟨a,b,rfl⟩)
     | _ :: _ :: _ :: _,h=>exact absurd h (by simp)) with rfl | ⟨⟨ex0,ey0,ed0⟩,rfl⟩ | ⟨⟨ex0,ey0,ed0⟩,⟨ex1,ey1,ed1⟩,rfl⟩
    ·obtain ⟨al,cl,rfl⟩:∃ a c,vq7=.slice a 0 c:=own_form7 hrw
     clear hrw hgl
     have aT:=hJ (bt bS.out aS.out)
     have aA:=hJ (BX.new bD.out aT.out)
     have fT:=aA.out.frozen 0
     have fU:=aA.out.cell 0 rfl
     have fV:=aA.out.frozen 1
     have fW:=aA.out.cell 1 rfl
     have fX:=aA.out.frozen 2
     have fY:=aA.out.cell 2 rfl
     have fZ:=aA.out.frozen 3
     have gA:=aA.out.cell 3 rfl
     have gB:=aA.out.frozen 4
     have gC:=aA.out.cell 4 rfl
     have gD:=aA.out.frozen 5
     have gE:=aA.out.cell 5 rfl
     have gF:=aA.out.frozen 6
     have gG:=aA.out.cell 6 rfl
     obtain ⟨x42,eI⟩:=nmz (World.setCell (World.setCell (World.setCell (World.setCell (World.setCell (World.setCell (World.setCell x37 ⟨w.heap.size+2,0,none⟩ (.int .i64 0)) ⟨w.heap.size+2,1,none⟩ (.int .i64 0)) ⟨w.heap.size+2,2,none⟩ (.int .i64 0)) ⟨w.heap.size+2,3,none⟩ (.int .i64 0)) ⟨w.heap.size+2,4,none⟩ (.int .i64 0)) ⟨w.heap.size+2,5,none⟩ (.int .i64 0)) ⟨w.heap.size+2,6,none⟩ (.int .i64 0))
     have eJ:=hJ (show sto x37 (w.heap.size+2) 0 [.int .i64 0,.int .i64 0,.int .i64 0,.int .i64 0,.int .i64 0,.int .i64 0,.int .i64 0]=x42 from eI)
     have gH:=hJ (show BX 49 x42 (w.heap.size+2) #[.int .i64 0,.int .i64 0,.int .i64 0,.int .i64 0,.int .i64 0,.int .i64 0,.int .i64 0] by rw [←eJ.out]; exact BX.put aA.out _ _)
     have aU:=hJ (show Below w.heap.size w x42 by rw [←eJ.out]; exact below_sto bU.out aZ.out _ _)
     go_wp2
     clear cK cL cM cN cO cP bJ cQ cR cS cT cU cV bK cY cZ dA dB dD dE dG fT fU fV fW fX fY fZ gA gB gC gD gE gF gG eI
     exact bodyPost_ret (results_cell_row rfl _ _ _ _ _ _ _ rfl gH.out Tryz.underlying49 rfl (by kernel_rfl)) rfl ⟨0,0,1,fun h=>absurd aR.out h,by rw [bG.out] <;> rfl,aU.out⟩
    ·rcases hrw with ⟨_,⟨_,h0⟩ | ⟨gl,cap,cur,rfl,hbg,hgc,hnc,hcm,hcs,htk⟩⟩
     ·cases h0
     have aC:=hJ (show BX 47 x37 gl cur from hgc)
     have bV:=hJ (show x1.heap.size≤gl from hbg)
     have dY:=hJ (show gl < x37.heap.size from aC.out.lt)
     have aV:=hJ (cur_get htk (j:=0) (u:=.int .i64 ex0) rfl)
     have aW:=hJ (cur_get htk (j:=1) (u:=.int .i64 ey0) rfl)
     have aX:=hJ (cur_get htk (j:=2) (u:=.int .i64 ed0) rfl)
     clear hbg hgc hnc hcm hcs htk hgl
     have gI:=aC.out.cell 0 aV.out
     have gJ:=aC.out.cell 1 aW.out
     have gK:=aC.out.cell 2 aX.out
     have aT:=hJ (bt bS.out aS.out)
     have aA:=hJ (BX.new bD.out aT.out)
     have gL:=aA.out.frozen 0
     have gM:=aA.out.cell 0 rfl
     have gN:=aA.out.frozen 1
     have gO:=aA.out.cell 1 rfl
     have gP:=aA.out.frozen 2
     have gQ:=aA.out.cell 2 rfl
     have gR:=aA.out.frozen 3
     have gS:=aA.out.cell 3 rfl
     have gT:=aA.out.frozen 4
     have gU:=aA.out.cell 4 rfl
     have gV:=aA.out.frozen 5
     have gW:=aA.out.cell 5 rfl
     have gX:=aA.out.frozen 6
     have gY:=aA.out.cell 6 rfl
     obtain ⟨x46,eK⟩:=nmz (World.setCell (World.setCell (World.setCell (World.setCell (World.setCell (World.setCell (World.setCell x37 ⟨w.heap.size+2,0,none⟩ (.int .i64 1)) ⟨w.heap.size+2,1,none⟩ (.int .i64 ex0)) ⟨w.heap.size+2,2,none⟩ (.int .i64 ey0)) ⟨w.heap.size+2,3,none⟩ (.int .i64 ed0)) ⟨w.heap.size+2,4,none⟩ (.int .i64 0)) ⟨w.heap.size+2,5,none⟩ (.int .i64 0)) ⟨w.heap.size+2,6,none⟩ (.int .i64 0))
     have eL:=hJ (show sto x37 (w.heap.size+2) 0 [.int .i64 1,.int .i64 ex0,.int .i64 ey0,.int .i64 ed0,.int .i64 0,.int .i64 0,.int .i64 0]=x46 from eK)
     have gZ:=hJ (show BX 49 x46 (w.heap.size+2) #[.int .i64 1,.int .i64 ex0,.int .i64 ey0,.int .i64 ed0,.int .i64 0,.int .i64 0,.int .i64 0] by rw [←eL.out]; exact BX.put aA.out _ _)
     have aU:=hJ (show Below w.heap.size w x46 by rw [←eL.out]; exact below_sto bU.out aZ.out _ _)
     go_wp2
     clear cK cL cM cN cO cP bJ cQ cR cS cT cU cV bK cY cZ dA dB dD dE dG gI gJ gK gL gM gN gO gP gQ gR gS gT gU gV gW gX gY eK
     exact bodyPost_ret (results_cell_row rfl _ _ _ _ _ _ _ rfl gZ.out Tryz.underlying49 rfl (by kernel_rfl)) rfl ⟨0,0,1,fun h=>absurd aR.out h,by rw [bG.out] <;> rfl,aU.out⟩
    rcases hrw with ⟨_,⟨_,h0⟩ | ⟨gl,cap,cur,rfl,hbg,hgc,hnc,hcm,hcs,htk⟩⟩
    ·cases h0
    have aC:=hJ (show BX 47 x37 gl cur from hgc)
    have bV:=hJ (show x1.heap.size≤gl from hbg)
    have dY:=hJ (show gl < x37.heap.size from aC.out.lt)
    have aV:=hJ (cur_get htk (j:=0) (u:=.int .i64 ex0) rfl)
    have aW:=hJ (cur_get htk (j:=1) (u:=.int .i64 ey0) rfl)
    have aX:=hJ (cur_get htk (j:=2) (u:=.int .i64 ed0) rfl)
    have bW:=hJ (cur_get htk (j:=3) (u:=.int .i64 ex1) rfl)
    have bX:=hJ (cur_get htk (j:=4) (u:=.int .i64 ey1) rfl)
    have bY:=hJ (cur_get htk (j:=5) (u:=.int .i64 ed1) rfl)
    clear hbg hgc hnc hcm hcs htk hgl
    have hA:Hid (∀ w',Below x37.heap.size x37 w'→(fun w':World=>w'.cell? ⟨gl,0,none⟩=some (.int .i64 ex0)∧w'.cell? ⟨gl,1,none⟩=some (.int .i64 ey0)∧w'.cell? ⟨gl,2,none⟩=some (.int .i64 ed0)∧w'.cell? ⟨gl,3,none⟩=some (.int .i64 ex1)∧w'.cell? ⟨gl,4,none⟩=some (.int .i64 ey1)∧w'.cell? ⟨gl,5,none⟩=some (.int .i64 ed1)∧Below w.heap.size w w') w'):=hJ (fun w' hb=>⟨(BX.new aC.out hb).cell 0 aV.out,(BX.new aC.out hb).cell 1 aW.out,(BX.new aC.out hb).cell 2 aX.out,(BX.new aC.out hb).cell 3 bW.out,(BX.new aC.out hb).cell 4 bX.out,(BX.new aC.out hb).cell 5 bY.out,(bt bU.out hb)⟩)
    have aT:=hJ (bt bS.out aS.out)
    have aA:=hJ (BX.new bD.out aT.out)
    go_wp2_with fail
    clear cK cL cM cN cO cP bJ cQ cR cS cT cU cV bK cY cZ dA dB dD dE dG
    obtain ⟨v47,hv47⟩:=nmz (World.drew x37)
    have dJ:=hJ (show Below x37.heap.size x37 v47 by rw [←hv47]; exact (Below.refl _ _).drew)
    refine whd hA hv47 (fun hHeld=>?_)
    clear hv47
    refine tq 0 ?_
    refine tq 1 ?_
    refine tq 2 ?_
    refine tq 3 ?_
    refine tq 4 ?_
    refine tq 5 ?_
    try simp only [PT]
    refine tk 6 (.int .i64 1) ?_ ?_
    ·intro w hSw
     (try dsimp only at hSw)
     go_simp
     first | rfl | decide
    refine tq 7 ?_
    refine tq 8 ?_
    refine tq 9 ?_
    try simp only [PT]
    refine ryy [10] ?_
    refine .cons rfl (fun K hK=>?_) .nil
    have aK:=hJ (BX.new aA.out dJ.out)
    have z48_0:=aK.out.cell 0 rfl
    have y48_0:=aK.out.frozen 0
    have z48_1:=aK.out.cell 1 rfl
    have y48_1:=aK.out.frozen 1
    have z48_2:=aK.out.cell 2 rfl
    have y48_2:=aK.out.frozen 2
    have z48_3:=aK.out.cell 3 rfl
    have y48_3:=aK.out.frozen 3
    have z48_4:=aK.out.cell 4 rfl
    have y48_4:=aK.out.frozen 4
    have z48_5:=aK.out.cell 5 rfl
    have y48_5:=aK.out.frozen 5
    have z48_6:=aK.out.cell 6 rfl
    have y48_6:=aK.out.frozen 6
    have z48:=aK.out.lt
    go_simp
    obtain ⟨v48,hV⟩:=nmz (World.setCell (World.setCell (World.setCell (World.setCell (World.setCell (World.setCell (World.setCell v47 ⟨w.heap.size+2,0,none⟩ (.int .i64 2)) ⟨w.heap.size+2,1,none⟩ (.int .i64 ex0)) ⟨w.heap.size+2,2,none⟩ (.int .i64 ey0)) ⟨w.heap.size+2,3,none⟩ (.int .i64 ed0)) ⟨w.heap.size+2,4,none⟩ (.int .i64 ex1)) ⟨w.heap.size+2,5,none⟩ (.int .i64 ey1)) ⟨w.heap.size+2,6,none⟩ (.int .i64 ed1))
    rw [hV]
    have dK:=hJ (show sto v47 (w.heap.size+2) 0 [.int .i64 2,.int .i64 ex0,.int .i64 ey0,.int .i64 ed0,.int .i64 ex1,.int .i64 ey1,.int .i64 ed1]=v48 from hV)
    clear hV z48 z48_0 y48_0 z48_1 y48_1 z48_2 y48_2 z48_3 y48_3 z48_4 y48_4 z48_5 y48_5 z48_6 y48_6
    have hB:=hJ (show Below w.heap.size w v48 by rw [←dK.out]; exact below_sto (bt bU.out dJ.out) aZ.out _ _)
    have bL:=hJ (show BX 47 v48 gl cur by rw [←dK.out]; exact BX.far (BX.new aC.out dJ.out) (show gl≠w.heap.size+2 by have h1:=eD.out; have h2:=bV.out; have h3:=((Below.refl x1.heap.size x1)).size; omega) _ _)
    clear hHeld
    refine hK.out _ _ (⟨bL.out.cell 0 aV.out,bL.out.cell 1 aW.out,bL.out.cell 2 aX.out,bL.out.cell 3 bW.out,bL.out.cell 4 bX.out,bL.out.cell 5 bY.out,hB.out⟩) (fun hHeld=>?_)
    clear hK K
    try simp only [PT]
    refine wpAnyH_done (by kernel_rfl) ?_ _
    clear hHeld
    have hC:=hJ (show BX 49 v48 (w.heap.size+2) #[.int .i64 2,.int .i64 ex0,.int .i64 ey0,.int .i64 ed0,.int .i64 ex1,.int .i64 ey1,.int .i64 ed1] by rw [←dK.out]; exact BX.put aK.out _ _)
    have bZ:=hJ (show Below w.heap.size w v48 by rw [←dK.out]; exact below_sto (bt bU.out dJ.out) aZ.out _ _)
    go_wp2
    exact bodyPost_ret (results_cell_row rfl _ _ _ _ _ _ _ rfl hC.out Tryz.underlying49 rfl (by kernel_rfl)) rfl ⟨0,0,1,fun h=>absurd aR.out h,by rw [bG.out] <;> rfl,bZ.out⟩
   ·have hcz:(rd == 0)=false:=by simp [hc]
    have dH:=hJ hc
    have bM:=hJ (BX.new bT.out aS.out)
    have hD:=bM.out.cell 0 rfl
    have dI:=hJ (bt bR.out aS.out)
    have bN:=hJ (BX.new aD.out dI.out)
    have hE:=bN.out.cell 0 rfl
    have hF:IntKind.i64.wrap (cx - ax)=cx - ax:=i6_wrap HI.out.1.2.2.1
    have hG:=cW.out.cell 1 rfl
    have hH:IntKind.i64.wrap ((cx - ax)*(dy - cy))=(cx - ax)*(dy - cy):=i6_wrap HI.out.1.2.2.2.2.1
    have hI:=bM.out.cell 1 rfl
    have hL:=bN.out.cell 1 rfl
    have hM:IntKind.i64.wrap (cy - ay)=cy - ay:=i6_wrap HI.out.1.2.2.2.1
    have hN:=cW.out.cell 0 rfl
    have hO:IntKind.i64.wrap ((cy - ay)*(dx - cx))=(cy - ay)*(dx - cx):=i6_wrap HI.out.1.2.2.2.2.2.1
    have hP:=eR.out
    have hQ:=eA.out
    have hR:=eB.out
    have dZ:Hid (∀ w',Below x37.heap.size x37 w'→(fun w':World=>w'.cell? ⟨w.heap.size,0,none⟩=some (.int .i64 ax)∧w'.cell? ⟨w.heap.size,1,none⟩=some (.int .i64 ay)∧w'.cell? ⟨w.heap.size,2,none⟩=some (.int .i64 bx)∧w'.cell? ⟨w.heap.size,3,none⟩=some (.int .i64 by')∧w'.cell? ⟨w.heap.size+1,0,none⟩=some (.int .i64 cx)∧w'.cell? ⟨w.heap.size+1,1,none⟩=some (.int .i64 cy)∧w'.cell? ⟨w.heap.size+1,2,none⟩=some (.int .i64 dx)∧w'.cell? ⟨w.heap.size+1,3,none⟩=some (.int .i64 dy)∧w'.cell? ⟨wl7.heap.size,0,none⟩=some (.int .i64 (bx - ax))∧w'.cell? ⟨wl7.heap.size,1,none⟩=some (.int .i64 (by' - ay))∧Below x37.heap.size x37 w') w'):=hJ (fun w' hb=>⟨(BX.new bN.out hb).cell 0 rfl,(BX.new bN.out hb).cell 1 rfl,(BX.new bN.out hb).cell 2 rfl,(BX.new bN.out hb).cell 3 rfl,(BX.new bM.out hb).cell 0 rfl,(BX.new bM.out hb).cell 1 rfl,(BX.new bM.out hb).cell 2 rfl,(BX.new bM.out hb).cell 3 rfl,(BX.new cX.out hb).cell 0 rfl,(BX.new cX.out hb).cell 1 rfl,hb⟩)
    have dU:=hJ (own7_new bH.out dI.out)
    have aT:=hJ (bt bS.out aS.out)
    have hS:=hJ (Nat.le_trans bQ.out (aT.out).size)
    go_wp2_with fail
    clear cK cL cM cN cO cP bJ cQ cR cS cT cU cV bK cY cZ dA dB dD dE dG hD hE hF hG hH hI hL hM hN hO hP hQ hR
    obtain ⟨v55,hv55⟩:=nmz (World.drew x37)
    have hT:=hJ (show Below x37.heap.size x37 v55 by rw [←hv55]; exact (Below.refl _ _).drew)
    refine whd dZ hv55 (fun hHeld=>?_)
    clear hv55
    refine tq 0 ?_
    refine tq 1 ?_
    refine tq 2 ?_
    refine tq 3 ?_
    refine tq 4 ?_
    refine tq 5 ?_
    refine tq 6 ?_
    try simp only [PT]
    refine tk 7 (.int .i64 (ax*rd)) ?_ ?_
    ·intro w hSw
     (try dsimp only at hSw)
     go_simp
     rw [i6_wrap cE.out.1]
    refine tq 8 ?_
    refine tq 9 ?_
    refine tq 10 ?_
    try simp only [PT]
    refine tk 11 (.int .i64 ((bx - ax)*rn)) ?_ ?_
    ·intro w hSw
     (try dsimp only at hSw)
     go_simp
     rw [i6_wrap cE.out.2.1]
    try simp only [PT]
    refine tk 12 (.int .i64 rx) ?_ ?_
    ·intro w hSw
     (try dsimp only at hSw)
     go_simp
     first | (rw [eA.out]) | rfl
    refine tq 13 ?_
    refine tq 14 ?_
    refine tq 15 ?_
    refine tq 16 ?_
    try simp only [PT]
    refine tk 17 (.int .i64 (ay*rd)) ?_ ?_
    ·intro w hSw
     (try dsimp only at hSw)
     go_simp
     rw [i6_wrap cE.out.2.2.1]
    refine tq 18 ?_
    refine tq 19 ?_
    refine tq 20 ?_
    try simp only [PT]
    refine tk 21 (.int .i64 ((by' - ay)*rn)) ?_ ?_
    ·intro w hSw
     (try dsimp only at hSw)
     go_simp
     rw [i6_wrap cE.out.2.2.2]
    try simp only [PT]
    refine tk 22 (.int .i64 ry) ?_ ?_
    ·intro w hSw
     (try dsimp only at hSw)
     go_simp
     first | (rw [eB.out]) | rfl
    refine tq 23 ?_
    try simp only [PT]
    refine ryy [24] ?_
    refine .cons rfl (fun K hK=>?_) .nil
    go_simp
    go_at_call 29
    refine (rmakez_any rx ry rd v55 dH.out (by have:=aY.out; omega) (by have:=aY.out; omega) (by have:=aY.out; omega)).mono ?_
    rintro e v56 ⟨PX,PY,PD,rfl,hmz,hb⟩
    have hU:=hJ hb
    clear hb
    have dL:=hJ hmz
    have hW:=hJ (mkz_rb hmz aY.out.1.1 aY.out.1.2 aY.out.2)
    clear hmz
    go_wp2_with fail
    have dM:=hJ (bt hT.out hU.out)
    clear hHeld
    refine hK.out _ _ (dZ.out _ dM.out) (fun hHeld=>?_)
    clear hK K
    try simp only [PT]
    refine ryy [25] ?_
    refine .cons rfl (fun K hK=>?_) .nil
    go_simp
    go_at_call 43
    refine (rcommon7_any ax ay bx by' cx cy dx dy PX PY PD (reK ax ay bx by' cx cy dx dy 4) vq7 x1.heap.size v56 (own7_new dU.out dM.out) (Nat.le_trans hS.out (dM.out).size) (Gd.len aG.out.2 aH.out.2 (reK_gd ax ay bx by' cx cy dx dy 4 (by decide))) (gd_rb aG.out aH.out (reK_gd ax ay bx by' cx cy dx dy 4 (by decide))) hW.out aG.out aH.out).mono ?_
    rintro e v57 ⟨vn,rfl,hrn,hb⟩
    have hX:=hJ hb
    have hY:=hJ hrn
    clear hb hrn
    go_wp2_with fail
    have cA:=hJ (bt dM.out hX.out)
    clear hHeld
    refine hK.out _ _ (dZ.out _ cA.out) (fun hHeld=>?_)
    clear hK K
    refine tq 26 ?_
    try simp only [PT]
    refine wpAnyH_done (by kernel_rfl) ?_ _
    clear hHeld
    have aU:=hJ (bt (bt (bt (bt (bt eC.out bA.out) aM.out) bR.out) aS.out) cA.out)
    have dW:=hJ (show rl7 ax ay bx by' cx cy dx dy (PX,PY,PD)=com7 ax ay bx by' cx cy dx dy (reK ax ay bx by' cx cy dx dy 4) (PX,PY,PD) from if_pos (by rw [aR.out]; exact dH.out))
    have dX:=hJ (show (com7 ax ay bx by' cx cy dx dy (reK ax ay bx by' cx cy dx dy 4) (PX,PY,PD)).length≤2 from rl_len aG.out aH.out (by rw [aR.out]; exact dH.out) (by rw [cC.out,cD.out,aR.out]; exact dL.out))
    obtain ⟨LL,hLL⟩:=nmz ((com7 ax ay bx by' cx cy dx dy (reK ax ay bx by' cx cy dx dy 4) (PX,PY,PD)))
    have hrw:=hY.out
    have hgl:=dX.out
    have hrl:=dW.out
    rw [hLL] at hrw hgl hrl
    have bG:=hJ hrl
    clear hrl hLL
    rcases (show LL=[]∨(∃ a,LL=[a])∨(∃ a b,LL=[a,b]) from by
     match LL,hgl with
     | [],_=>exact .inl rfl
     | [a],_=>exact .inr (.inl ⟨a,rfl⟩)
     | [a,b],_=>exact .inr (.inr ⟨a,b,rfl⟩)
     | _ :: _ :: _ :: _,h=>exact absurd h (by simp)) with rfl | ⟨⟨ex0,ey0,ed0⟩,rfl⟩ | ⟨⟨ex0,ey0,ed0⟩,⟨ex1,ey1,ed1⟩,rfl⟩
    ·obtain ⟨al,cl,rfl⟩:∃ a c,vn=.slice a 0 c:=own_form7 hrw
     clear hrw hgl
     have cB:=hJ (bt aT.out cA.out)
     have aB:=hJ (BX.new bD.out cB.out)
     have hZ:=aB.out.frozen 0
     have iA:=aB.out.cell 0 rfl
     have iB:=aB.out.frozen 1
     have iC:=aB.out.cell 1 rfl
     have iD:=aB.out.frozen 2
     have iE:=aB.out.cell 2 rfl
     have iF:=aB.out.frozen 3
     have iG:=aB.out.cell 3 rfl
     have iH:=aB.out.frozen 4
     have iI:=aB.out.cell 4 rfl
     have iJ:=aB.out.frozen 5
     have iK:=aB.out.cell 5 rfl
     have iL:=aB.out.frozen 6
     have iM:=aB.out.cell 6 rfl
     obtain ⟨x58,eM⟩:=nmz (World.setCell (World.setCell (World.setCell (World.setCell (World.setCell (World.setCell (World.setCell v57 ⟨w.heap.size+2,0,none⟩ (.int .i64 0)) ⟨w.heap.size+2,1,none⟩ (.int .i64 0)) ⟨w.heap.size+2,2,none⟩ (.int .i64 0)) ⟨w.heap.size+2,3,none⟩ (.int .i64 0)) ⟨w.heap.size+2,4,none⟩ (.int .i64 0)) ⟨w.heap.size+2,5,none⟩ (.int .i64 0)) ⟨w.heap.size+2,6,none⟩ (.int .i64 0))
     have eN:=hJ (show sto v57 (w.heap.size+2) 0 [.int .i64 0,.int .i64 0,.int .i64 0,.int .i64 0,.int .i64 0,.int .i64 0,.int .i64 0]=x58 from eM)
     have iN:=hJ (show BX 49 x58 (w.heap.size+2) #[.int .i64 0,.int .i64 0,.int .i64 0,.int .i64 0,.int .i64 0,.int .i64 0,.int .i64 0] by rw [←eN.out]; exact BX.put aB.out _ _)
     have bZ:=hJ (show Below w.heap.size w x58 by rw [←eN.out]; exact below_sto aU.out aZ.out _ _)
     go_wp2
     clear hZ iA iB iC iD iE iF iG iH iI iJ iK iL iM eM
     exact bodyPost_ret (results_cell_row rfl _ _ _ _ _ _ _ rfl iN.out Tryz.underlying49 rfl (by kernel_rfl)) rfl ⟨PX,PY,PD,fun _=>by rw [cC.out,cD.out,aR.out]; exact dL.out,by rw [bG.out] <;> rfl,bZ.out⟩
    ·rcases hrw with ⟨_,⟨_,h0⟩ | ⟨gl,cap,cur,rfl,hbg,hgc,hnc,hcm,hcs,htk⟩⟩
     ·cases h0
     have aC:=hJ (show BX 47 v57 gl cur from hgc)
     have bV:=hJ (show x1.heap.size≤gl from hbg)
     have dY:=hJ (show gl < v57.heap.size from aC.out.lt)
     have aV:=hJ (cur_get htk (j:=0) (u:=.int .i64 ex0) rfl)
     have aW:=hJ (cur_get htk (j:=1) (u:=.int .i64 ey0) rfl)
     have aX:=hJ (cur_get htk (j:=2) (u:=.int .i64 ed0) rfl)
     clear hbg hgc hnc hcm hcs htk hgl
     have iO:=aC.out.cell 0 aV.out
     have iP:=aC.out.cell 1 aW.out
     have iQ:=aC.out.cell 2 aX.out
     have cB:=hJ (bt aT.out cA.out)
     have aB:=hJ (BX.new bD.out cB.out)
     have iR:=aB.out.frozen 0
     have iS:=aB.out.cell 0 rfl
     have iT:=aB.out.frozen 1
     have iU:=aB.out.cell 1 rfl
     have iV:=aB.out.frozen 2
     have iW:=aB.out.cell 2 rfl
     have iX:=aB.out.frozen 3
     have iY:=aB.out.cell 3 rfl
     have iZ:=aB.out.frozen 4
     have jA:=aB.out.cell 4 rfl
     have jB:=aB.out.frozen 5
     have jC:=aB.out.cell 5 rfl
     have jD:=aB.out.frozen 6
     have jE:=aB.out.cell 6 rfl
     obtain ⟨x62,eO⟩:=nmz (World.setCell (World.setCell (World.setCell (World.setCell (World.setCell (World.setCell (World.setCell v57 ⟨w.heap.size+2,0,none⟩ (.int .i64 1)) ⟨w.heap.size+2,1,none⟩ (.int .i64 ex0)) ⟨w.heap.size+2,2,none⟩ (.int .i64 ey0)) ⟨w.heap.size+2,3,none⟩ (.int .i64 ed0)) ⟨w.heap.size+2,4,none⟩ (.int .i64 0)) ⟨w.heap.size+2,5,none⟩ (.int .i64 0)) ⟨w.heap.size+2,6,none⟩ (.int .i64 0))
     have eP:=hJ (show sto v57 (w.heap.size+2) 0 [.int .i64 1,.int .i64 ex0,.int .i64 ey0,.int .i64 ed0,.int .i64 0,.int .i64 0,.int .i64 0]=x62 from eO)
     have jF:=hJ (show BX 49 x62 (w.heap.size+2) #[.int .i64 1,.int .i64 ex0,.int .i64 ey0,.int .i64 ed0,.int .i64 0,.int .i64 0,.int .i64 0] by rw [←eP.out]; exact BX.put aB.out _ _)
     have bZ:=hJ (show Below w.heap.size w x62 by rw [←eP.out]; exact below_sto aU.out aZ.out _ _)
     go_wp2
     clear iO iP iQ iR iS iT iU iV iW iX iY iZ jA jB jC jD jE eO
     exact bodyPost_ret (results_cell_row rfl _ _ _ _ _ _ _ rfl jF.out Tryz.underlying49 rfl (by kernel_rfl)) rfl ⟨PX,PY,PD,fun _=>by rw [cC.out,cD.out,aR.out]; exact dL.out,by rw [bG.out] <;> rfl,bZ.out⟩
    ·rcases hrw with ⟨_,⟨_,h0⟩ | ⟨gl,cap,cur,rfl,hbg,hgc,hnc,hcm,hcs,htk⟩⟩
     ·cases h0
     have aC:=hJ (show BX 47 v57 gl cur from hgc)
     have bV:=hJ (show x1.heap.size≤gl from hbg)
     have dY:=hJ (show gl < v57.heap.size from aC.out.lt)
     have aV:=hJ (cur_get htk (j:=0) (u:=.int .i64 ex0) rfl)
     have aW:=hJ (cur_get htk (j:=1) (u:=.int .i64 ey0) rfl)
     have aX:=hJ (cur_get htk (j:=2) (u:=.int .i64 ed0) rfl)
     have bW:=hJ (cur_get htk (j:=3) (u:=.int .i64 ex1) rfl)
     have bX:=hJ (cur_get htk (j:=4) (u:=.int .i64 ey1) rfl)
     have bY:=hJ (cur_get htk (j:=5) (u:=.int .i64 ed1) rfl)
     clear hbg hgc hnc hcm hcs htk hgl
     have jG:Hid (∀ w',Below v57.heap.size v57 w'→(fun w':World=>w'.cell? ⟨gl,0,none⟩=some (.int .i64 ex0)∧w'.cell? ⟨gl,1,none⟩=some (.int .i64 ey0)∧w'.cell? ⟨gl,2,none⟩=some (.int .i64 ed0)∧w'.cell? ⟨gl,3,none⟩=some (.int .i64 ex1)∧w'.cell? ⟨gl,4,none⟩=some (.int .i64 ey1)∧w'.cell? ⟨gl,5,none⟩=some (.int .i64 ed1)∧Below w.heap.size w w') w'):=hJ (fun w' hb=>⟨(BX.new aC.out hb).cell 0 aV.out,(BX.new aC.out hb).cell 1 aW.out,(BX.new aC.out hb).cell 2 aX.out,(BX.new aC.out hb).cell 3 bW.out,(BX.new aC.out hb).cell 4 bX.out,(BX.new aC.out hb).cell 5 bY.out,(bt aU.out hb)⟩)
     have cB:=hJ (bt aT.out cA.out)
     have aB:=hJ (BX.new bD.out cB.out)
     go_wp2_with fail
     obtain ⟨v63,hv63⟩:=nmz (World.drew v57)
     have dN:=hJ (show Below v57.heap.size v57 v63 by rw [←hv63]; exact (Below.refl _ _).drew)
     refine whd jG hv63 (fun hHeld=>?_)
     clear hv63
     refine tq 0 ?_
     refine tq 1 ?_
     refine tq 2 ?_
     refine tq 3 ?_
     refine tq 4 ?_
     refine tq 5 ?_
     try simp only [PT]
     refine tk 6 (.int .i64 1) ?_ ?_
     ·intro w hSw
      (try dsimp only at hSw)
      go_simp
      first | rfl | decide
     refine tq 7 ?_
     refine tq 8 ?_
     refine tq 9 ?_
     try simp only [PT]
     refine ryy [10] ?_
     refine .cons rfl (fun K hK=>?_) .nil
     have aL:=hJ (BX.new aB.out dN.out)
     have z64_0:=aL.out.cell 0 rfl
     have y64_0:=aL.out.frozen 0
     have z64_1:=aL.out.cell 1 rfl
     have y64_1:=aL.out.frozen 1
     have z64_2:=aL.out.cell 2 rfl
     have y64_2:=aL.out.frozen 2
     have z64_3:=aL.out.cell 3 rfl
     have y64_3:=aL.out.frozen 3
     have z64_4:=aL.out.cell 4 rfl
     have y64_4:=aL.out.frozen 4
     have z64_5:=aL.out.cell 5 rfl
     have y64_5:=aL.out.frozen 5
     have z64_6:=aL.out.cell 6 rfl
     have y64_6:=aL.out.frozen 6
     have z64:=aL.out.lt
     go_simp
     obtain ⟨v64,hV⟩:=nmz (World.setCell (World.setCell (World.setCell (World.setCell (World.setCell (World.setCell (World.setCell v63 ⟨w.heap.size+2,0,none⟩ (.int .i64 2)) ⟨w.heap.size+2,1,none⟩ (.int .i64 ex0)) ⟨w.heap.size+2,2,none⟩ (.int .i64 ey0)) ⟨w.heap.size+2,3,none⟩ (.int .i64 ed0)) ⟨w.heap.size+2,4,none⟩ (.int .i64 ex1)) ⟨w.heap.size+2,5,none⟩ (.int .i64 ey1)) ⟨w.heap.size+2,6,none⟩ (.int .i64 ed1))
     rw [hV]
     have dO:=hJ (show sto v63 (w.heap.size+2) 0 [.int .i64 2,.int .i64 ex0,.int .i64 ey0,.int .i64 ed0,.int .i64 ex1,.int .i64 ey1,.int .i64 ed1]=v64 from hV)
     clear hV z64 z64_0 y64_0 z64_1 y64_1 z64_2 y64_2 z64_3 y64_3 z64_4 y64_4 z64_5 y64_5 z64_6 y64_6
     have jH:=hJ (show Below w.heap.size w v64 by rw [←dO.out]; exact below_sto (bt aU.out dN.out) aZ.out _ _)
     have bO:=hJ (show BX 47 v64 gl cur by rw [←dO.out]; exact BX.far (BX.new aC.out dN.out) (show gl≠w.heap.size+2 by have h1:=eD.out; have h2:=bV.out; have h3:=((Below.refl x1.heap.size x1)).size; omega) _ _)
     clear hHeld
     refine hK.out _ _ (⟨bO.out.cell 0 aV.out,bO.out.cell 1 aW.out,bO.out.cell 2 aX.out,bO.out.cell 3 bW.out,bO.out.cell 4 bX.out,bO.out.cell 5 bY.out,jH.out⟩) (fun hHeld=>?_)
     clear hK K
     try simp only [PT]
     refine wpAnyH_done (by kernel_rfl) ?_ _
     clear hHeld
     have jI:=hJ (show BX 49 v64 (w.heap.size+2) #[.int .i64 2,.int .i64 ex0,.int .i64 ey0,.int .i64 ed0,.int .i64 ex1,.int .i64 ey1,.int .i64 ed1] by rw [←dO.out]; exact BX.put aL.out _ _)
     have jJ:=hJ (show Below w.heap.size w v64 by rw [←dO.out]; exact below_sto (bt aU.out dN.out) aZ.out _ _)
     go_wp2
     exact bodyPost_ret (results_cell_row rfl _ _ _ _ _ _ _ rfl jI.out Tryz.underlying49 rfl (by kernel_rfl)) rfl ⟨PX,PY,PD,fun _=>by rw [cC.out,cD.out,aR.out]; exact dL.out,by rw [bG.out] <;> rfl,jJ.out⟩
end Go.Proofs.YtdgicnhadecldaaGreat
