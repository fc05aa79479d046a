/- Contracts: the law's points. Conditions: as each statement has them. -/
import Derived.Test.YtbgfmegepekapaaGreatQL
import Derived.Test.YtbgfmegepekapaaGreatEA
import Derived.Test.YtbgfmegepekapaaGreatEQ
namespace Go.Proofs.YtbgfmegepekapaaGreat
set_option maxRecDepth 100000
set_option maxHeartbeats 12800000
open Go.RowKit
attribute [local go_sem ↓] Go.wp_at_zero Go.wp_at_succ
set_option linter.unusedVariables false
set_option linter.unusedSimpArgs false
theorem stop_here {p:Prop} (h:∀ q:Prop,Hid (q=p)→q):p:=h p (hJ rfl)
theorem pickw_any (sv:Value) (xs:List Int) (i m:Nat) (w:World) (h:Got w sv xs) (hi:i≤1000) (h1:1≤(m:Int)) (hm:(m:Int)≤1099511627776) :
  Calls Tryz.prog 32 #[sv,.int .i64 i,.int .i64 m] w fun e w'=>(∃ k:Int,e=.returned (.int .i64 k)∧(0≤k∧k < m)∧(Lit.int .i64 k).wf=true)∧w=w':=by
 obtain ⟨hs,hl,hw⟩:=h
 unfold maxLen at hl
 have hi0:¬ (i:Int) < 0:=by omega
 rcases hs with ⟨rfl,rfl⟩ | ⟨ad,c,rfl,hc,hcell⟩
 ·go_enter Tryz.func32,Tryz.ntmps32
  go_wp2
  go_ret
  exact ⟨⟨0,rfl,⟨by omega,by omega⟩,by decide⟩,rfl⟩
 ·obtain ⟨n,hn⟩:∃ n,xs.length=n:=⟨_,rfl⟩
  have HN:=hJ hn
  rw [hn] at hl hc ⊢
  clear hn
  rcases Nat.lt_or_ge i n with hlt | hge
  ·obtain ⟨v,hv⟩:∃ v,xs[i]?=some v:=⟨_,List.getElem?_eq_getElem (by rw [HN.out]; exact hlt)⟩
   have hcv:=hcell i v hv
   have HA:=hJ (fun w'=>aroundz_any v m w' h1 hm (hw v (List.mem_of_getElem? hv)))
   have HB:=hJ (aroundZ_in v h1)
   have HM:=hJ hm
   clear hcell hw
   go_enter Tryz.func32,Tryz.ntmps32
   go_wp2_with fail
   refine (HA.out _).mono ?_
   rintro e w1 ⟨rfl,rfl⟩
   go_wp2
   go_ret
   exact ⟨⟨_,rfl,HB.out,WalkArith.wf_i64 (by have:=HB.out; have:=HM.out; omega)⟩,rfl⟩
  ·have hge2:((n:Nat):Int)≤(i:Int):=by omega
   go_enter Tryz.func32,Tryz.ntmps32
   go_wp2
   go_ret
   exact ⟨⟨0,rfl,⟨by omega,by omega⟩,by decide⟩,rfl⟩
/-- A point of the law's own, perhaps a middle. -/
def Pq (X Y D:Int):Prop:=(0 < D∧D≤576)∧(-19200≤X∧X≤19200)∧(-19200≤Y∧Y≤19200)
theorem sm_pq {X Y D:Int} (h:Sm X Y D):Pq X Y D:=⟨⟨h.1.1,by have:=h.1.2; omega⟩,⟨by have:=h.2.1.1; omega,by have:=h.2.1.2; omega⟩,by have:=h.2.2.1.1; omega,by have:=h.2.2.1.2; omega⟩
theorem mk_le_abs {g X x:Int} (hg:0 < g) (e:x=g*X):X.natAbs≤x.natAbs:=by rw [e,Int.natAbs_mul]; exact Nat.le_mul_of_pos_left _ (by omega)
theorem mid_pq {X Y D X' Y' D' A B C:Int} (h:Sm X Y D) (h':Sm X' Y' D') (hm:MkR (X*D'+X'*D) (Y*D'+Y'*D) (2*(D*D')) A B C) (hc:0 < C):Pq A B C:=by
 obtain ⟨g,hg,e1,e2,e3,_⟩:=hm
 have b1:=nk_mul (show Nk 400 X from h.2.1) (show Nk 12 D' by have:=h'.1; unfold Nk; omega)
 have b2:=nk_mul (show Nk 400 X' from h'.2.1) (show Nk 12 D by have:=h.1; unfold Nk; omega)
 have b3:=nk_mul (show Nk 400 Y from h.2.2.1) (show Nk 12 D' by have:=h'.1; unfold Nk; omega)
 have b4:=nk_mul (show Nk 400 Y' from h'.2.2.1) (show Nk 12 D by have:=h.1; unfold Nk; omega)
 have b5:=nk_mul (show Nk 12 D by have:=h.1; unfold Nk; omega) (show Nk 12 D' by have:=h'.1; unfold Nk; omega)
 have m1:=mk_le_abs hg e1
 have m2:=mk_le_abs hg e2
 have m3:=mk_le_abs hg e3
 have s1:=nk_add b1 b2
 have s2:=nk_add b3 b4
 unfold Nk at s1 s2 b5
 exact ⟨⟨hc,by omega⟩,⟨by omega,by omega⟩,by omega,by omega⟩
theorem sm_sb {X Y D:Int} (h:Sm X Y D):Sb X Y D:=⟨h.1,h.2.1,h.2.2.1⟩
theorem own_bs6 {okv:Value→Bool} {w:World} {base base':Nat} {e:TypeId} {size n g cap:Nat} {xs:List Value} (h:OwnR okv w base e size (.slice (some ⟨g,0,none⟩) n cap) n xs) (hb:base'≤base):OwnR okv w base' e size (.slice (some ⟨g,0,none⟩) n cap) n xs:=by
 obtain ⟨cur,hg,c4,hbg,c1,c2,c3,ho⟩:=h.blk
 exact ⟨⟨h.1.1,.inr ⟨g,cap,cur,rfl,Nat.le_trans hb hbg,hg,c1,c2,c3,c4⟩⟩,h.2⟩
/-- A point of the program, of the numbers of one of the law's. -/
def RetOwn (X Y D:Int) (w:World) (e:Ending) (w':World):Prop:=∃ s0 A0 n0 c0 t0 B0 m0 d0 s0b A0b n0b c0b t0b B0b m0b d0b,e=.returned (.tuple #[.agg #[.bool s0,.slice A0 n0 c0,.bool t0,.slice B0 m0 d0,.bool s0b,.slice A0b n0b c0b,.bool t0b,.slice B0b m0b d0b],.bool true])∧PF w' s0 A0 n0 c0 t0 B0 m0 d0 (mkP X D) (mkQ X D)∧PF w' s0b A0b n0b c0b t0b B0b m0b d0b (mkP Y D) (mkQ Y D)∧Below w.heap.size w w'
theorem OwnR.ge {okv:Value→Bool} {w:World} {base:Nat} {e:TypeId} {size n g cap:Nat} {xs:List Value} (h:OwnR okv w base e size (.slice (some ⟨g,0,none⟩) n cap) n xs):base≤g:=by
 obtain ⟨cur,hg,c4,hbg,_⟩:=h.blk
 exact hbg
theorem OwnR.lt {okv:Value→Bool} {w:World} {base:Nat} {e:TypeId} {size n g cap:Nat} {xs:List Value} (h:OwnR okv w base e size (.slice (some ⟨g,0,none⟩) n cap) n xs):g < w.heap.size:=by
 obtain ⟨cur,hg,_⟩:=h.blk
 exact hg.lt
theorem points_any (A:Option Addr) (ln c:Nat) (xs:List Int) (w:World) (hg:Got w (.slice A ln c) xs) :
  Calls Tryz.prog 19 #[.slice A ln c] w fun e w'=>∃ (g cap:Nat) (x0 y0 d0 x1 y1 d1 x2 y2 d2 x3 y3 d3:Int),e=.returned (.slice (some ⟨g,0,none⟩) 4 cap)∧OwnR noU w' w.heap.size 32 3 (.slice (some ⟨g,0,none⟩) 4 cap) 4 [.int .i64 x0,.int .i64 y0,.int .i64 d0,.int .i64 x1,.int .i64 y1,.int .i64 d1,.int .i64 x2,.int .i64 y2,.int .i64 d2,.int .i64 x3,.int .i64 y3,.int .i64 d3]∧Pq x0 y0 d0∧Pq x1 y1 d1∧Pq x2 y2 d2∧Pq x3 y3 d3∧Sm x0 y0 d0∧Sm x1 y1 d1∧Below w.heap.size w w':=by
 have HG:=hJ hg
 clear hg
 go_enter Tryz.func19,Tryz.ntmps19
 go_wp2_with fail
 obtain ⟨i32,hi32,hz32,hs32,hy32⟩:=info_parts (show (Tryz.prog.info? 32).map (fun i=>(i.zero,i.size,i.bytes))=some (some (.agg #[.int .i64 0,.int .i64 0,.int .i64 0]),3,24) by kernel_rfl)
 have aH:=hJ (And.intro hi32 (And.intro hz32 (And.intro hs32 hy32)))
 clear hi32 hz32 hs32 hy32
 go_loopw [4,3] (fun tv tx wr=>∃ i:Nat,tv=.int .i64 (i:Int)∧Below w.heap.size w wr∧((i=0∧tx=.slice none 0 0)∨(i=1∧∃ (gx cpx:Nat) (px0_1 py0_1 pd0_1:Int),tx=.slice (some ⟨gx,0,none⟩) 1 cpx∧Hid (OwnR noU wr w.heap.size 32 3 (.slice (some ⟨gx,0,none⟩) 1 cpx) 1 [.int .i64 px0_1,.int .i64 py0_1,.int .i64 pd0_1])∧Hid (w.heap.size≤gx)∧Hid (gx < wr.heap.size)∧Hid (Sm px0_1 py0_1 pd0_1))∨(i=2∧∃ (gx cpx:Nat) (px0_1 py0_1 pd0_1 px1_1 py1_1 pd1_1:Int),tx=.slice (some ⟨gx,0,none⟩) 2 cpx∧Hid (OwnR noU wr w.heap.size 32 3 (.slice (some ⟨gx,0,none⟩) 2 cpx) 2 [.int .i64 px0_1,.int .i64 py0_1,.int .i64 pd0_1,.int .i64 px1_1,.int .i64 py1_1,.int .i64 pd1_1])∧Hid (w.heap.size≤gx)∧Hid (gx < wr.heap.size)∧Hid (Sm px0_1 py0_1 pd0_1)∧Hid (Sm px1_1 py1_1 pd1_1))∨(i=3∧∃ (gx cpx:Nat) (px0_1 py0_1 pd0_1 px1_1 py1_1 pd1_1 px2_1 py2_1 pd2_1:Int),tx=.slice (some ⟨gx,0,none⟩) 3 cpx∧Hid (OwnR noU wr w.heap.size 32 3 (.slice (some ⟨gx,0,none⟩) 3 cpx) 3 [.int .i64 px0_1,.int .i64 py0_1,.int .i64 pd0_1,.int .i64 px1_1,.int .i64 py1_1,.int .i64 pd1_1,.int .i64 px2_1,.int .i64 py2_1,.int .i64 pd2_1])∧Hid (w.heap.size≤gx)∧Hid (gx < wr.heap.size)∧Hid (Sm px0_1 py0_1 pd0_1)∧Hid (Sm px1_1 py1_1 pd1_1)∧Hid (Sm px2_1 py2_1 pd2_1))∨(i=4∧∃ (gx cpx:Nat) (px0_1 py0_1 pd0_1 px1_1 py1_1 pd1_1 px2_1 py2_1 pd2_1 px3_1 py3_1 pd3_1:Int),tx=.slice (some ⟨gx,0,none⟩) 4 cpx∧Hid (OwnR noU wr w.heap.size 32 3 (.slice (some ⟨gx,0,none⟩) 4 cpx) 4 [.int .i64 px0_1,.int .i64 py0_1,.int .i64 pd0_1,.int .i64 px1_1,.int .i64 py1_1,.int .i64 pd1_1,.int .i64 px2_1,.int .i64 py2_1,.int .i64 pd2_1,.int .i64 px3_1,.int .i64 py3_1,.int .i64 pd3_1])∧Hid (w.heap.size≤gx)∧Hid (gx < wr.heap.size)∧Hid (Sm px0_1 py0_1 pd0_1)∧Hid (Sm px1_1 py1_1 pd1_1)∧Hid (Sm px2_1 py2_1 pd2_1)∧Hid (Sm px3_1 py3_1 pd3_1)))) (fun tv _ _=>4 - (intOf tv).toNat)
 case atStart=>exact ⟨0,rfl,Below.refl _ _,.inl ⟨rfl,rfl⟩⟩
 case round =>
  obtain ⟨i1,rfl,hbel,hdis⟩:=hrel
  obtain ⟨wl1,rfl⟩:∃ W:World,W=wr:=⟨_,rfl⟩
  have aG:=hJ hbel
  clear hbel
  rcases hdis with ⟨rfl,rfl⟩ | ⟨rfl,gx,cpx,px0_1,py0_1,pd0_1,rfl,aA,aR,bB,aC⟩ | ⟨rfl,gx,cpx,px0_1,py0_1,pd0_1,px1_1,py1_1,pd1_1,rfl,aA,aR,bB,aC,aD⟩ | ⟨rfl,gx,cpx,px0_1,py0_1,pd0_1,px1_1,py1_1,pd1_1,px2_1,py2_1,pd2_1,rfl,aA,aR,bB,aC,aD,aO⟩ | ⟨rfl,gx,cpx,px0_1,py0_1,pd0_1,px1_1,py1_1,pd1_1,px2_1,py2_1,pd2_1,px3_1,py3_1,pd3_1,rfl,aA,aR,bB,aC,aD,aO,aT⟩
  ·(try rw [show ((0:Nat):Int)=0 from rfl])
   have aI:=hJ (Got.new HG.out aG.out)
   go_wp2_with fail
   refine (pickw_any (.slice A ln c) xs 0 1048576 wl1 aI.out (by decide) (by decide) (by decide)).mono ?_
   rintro e w2 ⟨⟨x11,rfl,hzx11⟩,rfl⟩
   have cQ:=hJ hzx11
   clear hzx11
   go_wp2_with fail
   refine (some_any x11 wl1 (cQ.out.2)).mono ?_
   rintro e w3 ⟨x12,y12,d12,rfl,hs12,hb⟩
   have cR:=hJ hb
   clear hb
   have cS:=hJ hs12
   clear hs12
   obtain ⟨x4,bC⟩:=nmz (w3.alloc (.cells #[.int .i64 x12,.int .i64 y12,.int .i64 d12] 32))
   have cT:=hJ (show Below w3.heap.size w3 x4 by rw [←bC]; exact ((Below.refl _ _).alloc (Nat.le_refl _) _))
   have cU:=hJ (show BX 32 x4 w3.heap.size #[.int .i64 x12,.int .i64 y12,.int .i64 d12] by rw [←bC]; exact (BX.at rfl))
   have bM:=hJ (OwnR.nil noU x4 w.heap.size 32 3)
   have aF:=hJ (bt (bt aG.out cR.out) cT.out)
   go_wp2_with (at_builtin; refine wpList_append_okv noU rfl _ _ 55 rfl w.heap.size 32 i32 _ 3 24 Tryz.underlying55 aH.out.1 aH.out.2.1 aH.out.2.2.1 aH.out.2.2.2 rfl rfl (by decide) (.slice none 0 0) 0 [] rfl bM.out ⟨w3.heap.size,0,none⟩ 1 1 [.int .i64 x12,.int .i64 y12,.int .i64 d12] rfl rfl (BX.news cU.out) (List.all_eq_true (p:=Value.oneCell')|>.1 rfl) rfl (by unfold maxLen; omega) (by omega) (aF.out).size (by decide) ?_; intro va wa hown hgrow; refine stop_here (fun q aJ=>?_))
   clear bC
   rw [aJ.out]
   clear aJ q
   have hown:OwnR noU wa w.heap.size 32 3 va 1 [.int .i64 x12,.int .i64 y12,.int .i64 d12]:=hown
   obtain ⟨bN,bO,rfl,hg1,hg2,hcap,_⟩:=hown.row (by decide)
   obtain ⟨w6,rfl⟩:∃ W,W=wa:=⟨_,rfl⟩
   have cV:=hJ (show OwnR noU w6 w.heap.size 32 3 (.slice (some ⟨bN,0,none⟩) 1 bO) 1 [.int .i64 x12,.int .i64 y12,.int .i64 d12] from hown)
   have cW:=hJ hg1
   have cX:=hJ hg2
   have cY:=hJ hgrow
   clear hown hg1 hg2 hgrow hcap
   have aU:=hJ (show Below w.heap.size w w6 from Grew.below aF.out cY.out bM.out (Nat.le_refl _) (aF.out).size)
   have cZ:=hJ cX.out
   go_wp2_with fail
   go_roundw
   case rel=>exact ⟨1,by go_num,aU.out,.inr (.inl ⟨rfl,bN,bO,x12,y12,d12,rfl,cV,cW,cZ,cS⟩)⟩
   case measure=>simp [intOf] <;> omega
  ·(try rw [show ((1:Nat):Int)=1 from rfl])
   have aI:=hJ (Got.new HG.out aG.out)
   go_wp2_with fail
   refine (pickw_any (.slice A ln c) xs 1 1048576 wl1 aI.out (by decide) (by decide) (by decide)).mono ?_
   rintro e w8 ⟨⟨x13,rfl,hzx13⟩,rfl⟩
   have dA:=hJ hzx13
   clear hzx13
   go_wp2_with fail
   refine (some_any x13 wl1 (dA.out.2)).mono ?_
   rintro e w9 ⟨x14,y14,d14,rfl,hs14,hb⟩
   have bP:=hJ hb
   clear hb
   have dB:=hJ hs14
   clear hs14
   obtain ⟨x10,bD⟩:=nmz (w9.alloc (.cells #[.int .i64 x14,.int .i64 y14,.int .i64 d14] 32))
   have bQ:=hJ (show Below w9.heap.size w9 x10 by rw [←bD]; exact ((Below.refl _ _).alloc (Nat.le_refl _) _))
   have dD:=hJ (show BX 32 x10 w9.heap.size #[.int .i64 x14,.int .i64 y14,.int .i64 d14] by rw [←bD]; exact (BX.at rfl))
   have aX:=hJ (bt bP.out bQ.out)
   have aS:=hJ (OwnR.new aA.out aX.out)
   have aF:=hJ (bt (bt aG.out bP.out) bQ.out)
   go_wp2_with (at_builtin; refine wpList_append_okv noU rfl _ _ 55 rfl w.heap.size 32 i32 _ 3 24 Tryz.underlying55 aH.out.1 aH.out.2.1 aH.out.2.2.1 aH.out.2.2.2 rfl rfl (by decide) (.slice (some ⟨gx,0,none⟩) 1 cpx) 1 [.int .i64 px0_1,.int .i64 py0_1,.int .i64 pd0_1] rfl aS.out ⟨w9.heap.size,0,none⟩ 1 1 [.int .i64 x14,.int .i64 y14,.int .i64 d14] rfl rfl (BX.news dD.out) (List.all_eq_true (p:=Value.oneCell')|>.1 rfl) rfl (by unfold maxLen; omega) (by omega) (aF.out).size (by decide) ?_; intro va wa hown hgrow; refine stop_here (fun q aJ=>?_))
   clear bD
   rw [aJ.out]
   clear aJ q
   have hown:OwnR noU wa w.heap.size 32 3 va 2 [.int .i64 px0_1,.int .i64 py0_1,.int .i64 pd0_1,.int .i64 x14,.int .i64 y14,.int .i64 d14]:=hown
   obtain ⟨bR,bS,rfl,hg1,hg2,hcap,_⟩:=hown.row (by decide)
   obtain ⟨w11,rfl⟩:∃ W,W=wa:=⟨_,rfl⟩
   have dE:=hJ (show OwnR noU w11 w.heap.size 32 3 (.slice (some ⟨bR,0,none⟩) 2 bS) 2 [.int .i64 px0_1,.int .i64 py0_1,.int .i64 pd0_1,.int .i64 x14,.int .i64 y14,.int .i64 d14] from hown)
   have dF:=hJ hg1
   have dG:=hJ hg2
   have dH:=hJ hgrow
   clear hown hg1 hg2 hgrow hcap
   have aU:=hJ (show Below w.heap.size w w11 from Grew.below aF.out dH.out aS.out (Nat.le_refl _) (aF.out).size)
   have dI:=hJ dG.out
   go_wp2_with fail
   go_roundw
   case rel=>exact ⟨2,by go_num,aU.out,.inr (.inr (.inl ⟨rfl,bR,bS,px0_1,py0_1,pd0_1,x14,y14,d14,rfl,dE,dF,dI,aC,dB⟩))⟩
   case measure=>simp [intOf] <;> omega
  ·(try rw [show ((2:Nat):Int)=2 from rfl])
   have aI:=hJ (Got.new HG.out aG.out)
   go_wp2_with fail
   refine (pickw_any (.slice A ln c) xs 2 1048576 wl1 aI.out (by decide) (by decide) (by decide)).mono ?_
   rintro e w13 ⟨⟨x15,rfl,hzx15⟩,rfl⟩
   have dJ:=hJ hzx15
   clear hzx15
   go_wp2_with fail
   refine (some_any x15 wl1 (dJ.out.2)).mono ?_
   rintro e w14 ⟨x16,y16,d16,rfl,hs16,hb⟩
   have bT:=hJ hb
   clear hb
   have dK:=hJ hs16
   clear hs16
   obtain ⟨x15,bE⟩:=nmz (w14.alloc (.cells #[.int .i64 x16,.int .i64 y16,.int .i64 d16] 32))
   have bU:=hJ (show Below w14.heap.size w14 x15 by rw [←bE]; exact ((Below.refl _ _).alloc (Nat.le_refl _) _))
   have dL:=hJ (show BX 32 x15 w14.heap.size #[.int .i64 x16,.int .i64 y16,.int .i64 d16] by rw [←bE]; exact (BX.at rfl))
   have aX:=hJ (bt bT.out bU.out)
   have aS:=hJ (OwnR.new aA.out aX.out)
   have aF:=hJ (bt (bt aG.out bT.out) bU.out)
   go_wp2_with (at_builtin; refine wpList_append_okv noU rfl _ _ 55 rfl w.heap.size 32 i32 _ 3 24 Tryz.underlying55 aH.out.1 aH.out.2.1 aH.out.2.2.1 aH.out.2.2.2 rfl rfl (by decide) (.slice (some ⟨gx,0,none⟩) 2 cpx) 2 [.int .i64 px0_1,.int .i64 py0_1,.int .i64 pd0_1,.int .i64 px1_1,.int .i64 py1_1,.int .i64 pd1_1] rfl aS.out ⟨w14.heap.size,0,none⟩ 1 1 [.int .i64 x16,.int .i64 y16,.int .i64 d16] rfl rfl (BX.news dL.out) (List.all_eq_true (p:=Value.oneCell')|>.1 rfl) rfl (by unfold maxLen; omega) (by omega) (aF.out).size (by decide) ?_; intro va wa hown hgrow; refine stop_here (fun q aJ=>?_))
   clear bE
   rw [aJ.out]
   clear aJ q
   have hown:OwnR noU wa w.heap.size 32 3 va 3 [.int .i64 px0_1,.int .i64 py0_1,.int .i64 pd0_1,.int .i64 px1_1,.int .i64 py1_1,.int .i64 pd1_1,.int .i64 x16,.int .i64 y16,.int .i64 d16]:=hown
   obtain ⟨bV,bW,rfl,hg1,hg2,hcap,_⟩:=hown.row (by decide)
   obtain ⟨w16,rfl⟩:∃ W,W=wa:=⟨_,rfl⟩
   have dM:=hJ (show OwnR noU w16 w.heap.size 32 3 (.slice (some ⟨bV,0,none⟩) 3 bW) 3 [.int .i64 px0_1,.int .i64 py0_1,.int .i64 pd0_1,.int .i64 px1_1,.int .i64 py1_1,.int .i64 pd1_1,.int .i64 x16,.int .i64 y16,.int .i64 d16] from hown)
   have dN:=hJ hg1
   have dO:=hJ hg2
   have dP:=hJ hgrow
   clear hown hg1 hg2 hgrow hcap
   have aU:=hJ (show Below w.heap.size w w16 from Grew.below aF.out dP.out aS.out (Nat.le_refl _) (aF.out).size)
   have dQ:=hJ dO.out
   go_wp2_with fail
   go_roundw
   case rel=>exact ⟨3,by go_num,aU.out,.inr (.inr (.inr (.inl ⟨rfl,bV,bW,px0_1,py0_1,pd0_1,px1_1,py1_1,pd1_1,x16,y16,d16,rfl,dM,dN,dQ,aC,aD,dK⟩)))⟩
   case measure=>simp [intOf] <;> omega
  ·(try rw [show ((3:Nat):Int)=3 from rfl])
   have aI:=hJ (Got.new HG.out aG.out)
   go_wp2_with fail
   refine (pickw_any (.slice A ln c) xs 3 1048576 wl1 aI.out (by decide) (by decide) (by decide)).mono ?_
   rintro e w18 ⟨⟨x17,rfl,hzx17⟩,rfl⟩
   have dR:=hJ hzx17
   clear hzx17
   go_wp2_with fail
   refine (some_any x17 wl1 (dR.out.2)).mono ?_
   rintro e w19 ⟨x18,y18,d18,rfl,hs18,hb⟩
   have bX:=hJ hb
   clear hb
   have dS:=hJ hs18
   clear hs18
   obtain ⟨x20,bF⟩:=nmz (w19.alloc (.cells #[.int .i64 x18,.int .i64 y18,.int .i64 d18] 32))
   have bY:=hJ (show Below w19.heap.size w19 x20 by rw [←bF]; exact ((Below.refl _ _).alloc (Nat.le_refl _) _))
   have dT:=hJ (show BX 32 x20 w19.heap.size #[.int .i64 x18,.int .i64 y18,.int .i64 d18] by rw [←bF]; exact (BX.at rfl))
   have aX:=hJ (bt bX.out bY.out)
   have aS:=hJ (OwnR.new aA.out aX.out)
   have aF:=hJ (bt (bt aG.out bX.out) bY.out)
   go_wp2_with (at_builtin; refine wpList_append_okv noU rfl _ _ 55 rfl w.heap.size 32 i32 _ 3 24 Tryz.underlying55 aH.out.1 aH.out.2.1 aH.out.2.2.1 aH.out.2.2.2 rfl rfl (by decide) (.slice (some ⟨gx,0,none⟩) 3 cpx) 3 [.int .i64 px0_1,.int .i64 py0_1,.int .i64 pd0_1,.int .i64 px1_1,.int .i64 py1_1,.int .i64 pd1_1,.int .i64 px2_1,.int .i64 py2_1,.int .i64 pd2_1] rfl aS.out ⟨w19.heap.size,0,none⟩ 1 1 [.int .i64 x18,.int .i64 y18,.int .i64 d18] rfl rfl (BX.news dT.out) (List.all_eq_true (p:=Value.oneCell')|>.1 rfl) rfl (by unfold maxLen; omega) (by omega) (aF.out).size (by decide) ?_; intro va wa hown hgrow; refine stop_here (fun q aJ=>?_))
   clear bF
   rw [aJ.out]
   clear aJ q
   have hown:OwnR noU wa w.heap.size 32 3 va 4 [.int .i64 px0_1,.int .i64 py0_1,.int .i64 pd0_1,.int .i64 px1_1,.int .i64 py1_1,.int .i64 pd1_1,.int .i64 px2_1,.int .i64 py2_1,.int .i64 pd2_1,.int .i64 x18,.int .i64 y18,.int .i64 d18]:=hown
   obtain ⟨bZ,cA,rfl,hg1,hg2,hcap,_⟩:=hown.row (by decide)
   obtain ⟨w21,rfl⟩:∃ W,W=wa:=⟨_,rfl⟩
   have dU:=hJ (show OwnR noU w21 w.heap.size 32 3 (.slice (some ⟨bZ,0,none⟩) 4 cA) 4 [.int .i64 px0_1,.int .i64 py0_1,.int .i64 pd0_1,.int .i64 px1_1,.int .i64 py1_1,.int .i64 pd1_1,.int .i64 px2_1,.int .i64 py2_1,.int .i64 pd2_1,.int .i64 x18,.int .i64 y18,.int .i64 d18] from hown)
   have dW:=hJ hg1
   have dX:=hJ hg2
   have dY:=hJ hgrow
   clear hown hg1 hg2 hgrow hcap
   have aU:=hJ (show Below w.heap.size w w21 from Grew.below aF.out dY.out aS.out (Nat.le_refl _) (aF.out).size)
   have dZ:=hJ dX.out
   go_wp2_with fail
   go_roundw
   case rel=>exact ⟨4,by go_num,aU.out,.inr (.inr (.inr (.inr (⟨rfl,bZ,cA,px0_1,py0_1,pd0_1,px1_1,py1_1,pd1_1,px2_1,py2_1,pd2_1,x18,y18,d18,rfl,dU,dW,dZ,aC,aD,aO,dS⟩))))⟩
   case measure=>simp [intOf] <;> omega
  ·(try rw [show ((4:Nat):Int)=4 from rfl])
   have aI:=hJ (Got.new HG.out aG.out)
   go_wp2_with fail
   refine (pickw_any (.slice A ln c) xs 4 5 wl1 aI.out (by decide) (by decide) (by decide)).mono ?_
   rintro e w23 ⟨⟨x19,rfl,hzx19⟩,rfl⟩
   clear hzx19
   rcases (show x19=0∨x19=1∨x19=2∨(¬ x19=0∧¬ x19=1∧¬ x19=2) by omega) with hz | hz | hz | hz
   ·have e0:(x19 == 0)=true:=by simp [hz]
    have e1:(x19 == 1)=false:=by simp; omega
    have e2:(x19 == 2)=false:=by simp; omega
    clear hz
    have aK:Hid (∀ w',Below wl1.heap.size wl1 w'→(fun w':World=>Below w.heap.size w w') w'):=hJ (fun w' hb=>(bt aG.out hb))
    go_wp2_with fail
    obtain ⟨v24,hv24⟩:=nmz (World.drew wl1)
    have aL:=hJ (show Below wl1.heap.size wl1 v24 by rw [←hv24]; exact (Below.refl _ _).drew)
    refine whd aK hv24 (fun hHeld=>?_)
    clear hv24
    refine tq 0 ?_
    refine tq 1 ?_
    refine tq 2 ?_
    refine tq 4 ?_
    refine tq 5 ?_
    try simp only [PT]
    refine wpAnyH_name (fun F hF a0 ha0 L0 hL0=>?_)
    have cB:∀ (x20:Int) (y20:Int) (d20:Int) (v:World),Hid (Below wl1.heap.size wl1 v)→Hid (Pq x20 y20 d20)→F 1 (Array.setIfInBounds (Array.setIfInBounds (Array.setIfInBounds (Array.setIfInBounds L0 3 true) 6 true) 7 true) 8 true) (Act.put (Act.put (Act.put (Act.put a0 (some 23) (.agg #[.int .i64 px0_1,.int .i64 py0_1,.int .i64 pd0_1])) (some 26) (.agg #[.int .i64 px1_1,.int .i64 py1_1,.int .i64 pd1_1])) (some 27) (.agg #[.int .i64 x20,.int .i64 y20,.int .i64 d20])) (some 28) (.pointer (some ⟨gx,9,none⟩))) v:=by
     intro x20 y20 d20 v aB bG
     subst hF ha0 hL0
     simp only [PT] at  ⊢
     have hHeld:=aK.out _ aB.out
     refine ryy [9] ?_
     refine .cons rfl (fun K hK=>?_) .nil
     have aV:=hJ (OwnR.new aA.out aB.out)
     have z25_0:=aV.out.at 9 rfl
     have y25_0:=OwnR.frz aV.out 9
     have z25_1:=aV.out.at 10 rfl
     have y25_1:=OwnR.frz aV.out 10
     have z25_2:=aV.out.at 11 rfl
     have y25_2:=OwnR.frz aV.out 11
     go_simp
     obtain ⟨v25,hV⟩:=nmz (World.setCell (World.setCell (World.setCell v ⟨gx,9,none⟩ (.int .i64 x20)) ⟨gx,10,none⟩ (.int .i64 y20)) ⟨gx,11,none⟩ (.int .i64 d20))
     rw [hV]
     have bH:=hJ (show sto v gx 9 [.int .i64 x20,.int .i64 y20,.int .i64 d20]=v25 from hV)
     clear hV z25_0 y25_0 z25_1 y25_1 z25_2 y25_2
     have eA:=hJ (show Below w.heap.size w v25 by rw [←bH.out]; exact below_sto (bt aG.out aB.out) aR.out _ _)
     clear hHeld
     refine hK.out _ _ (eA.out) (fun hHeld=>?_)
     clear hK K
     try simp only [PT]
     refine wpAnyH_done (by kernel_rfl) ?_ _
     clear hHeld
     have eB:=hJ (show OwnR noU v25 w.heap.size 32 3 (.slice (some ⟨gx,0,none⟩) 4 cpx) 4 [.int .i64 px0_1,.int .i64 py0_1,.int .i64 pd0_1,.int .i64 px1_1,.int .i64 py1_1,.int .i64 pd1_1,.int .i64 px2_1,.int .i64 py2_1,.int .i64 pd2_1,.int .i64 x20,.int .i64 y20,.int .i64 d20] by rw [←bH.out]; exact OwnR.sto aV.out 9 [.int .i64 x20,.int .i64 y20,.int .i64 d20] rfl)
     have aF:=hJ (show Below w.heap.size w v25 by rw [←bH.out]; exact below_sto (bt aG.out aB.out) aR.out _ _)
     go_wp2
     go_ret
     exact ⟨gx,cpx,px0_1,py0_1,pd0_1,px1_1,py1_1,pd1_1,px2_1,py2_1,pd2_1,x20,y20,d20,rfl,own_bs6 eB.out (Nat.le_refl _),(sm_pq aC.out),(sm_pq aD.out),(sm_pq aO.out),bG.out,aC.out,aD.out,aF.out⟩
    have aY:∀ (v:World),Hid (Below wl1.heap.size wl1 v)→F 3 (Array.setIfInBounds (Array.setIfInBounds L0 3 true) 6 true) (Act.put (Act.put a0 (some 23) (.agg #[.int .i64 px0_1,.int .i64 py0_1,.int .i64 pd0_1])) (some 26) (.agg #[.int .i64 px1_1,.int .i64 py1_1,.int .i64 pd1_1])) v:=by
     intro  v aB
     subst hF ha0 hL0
     simp only [PT] at cB ⊢
     have hHeld:=aK.out _ aB.out
     refine ryy [7] ?_
     refine .cons rfl (fun K hK=>?_) .nil
     go_simp
     go_at_call 57
     refine (rmid_any px0_1 py0_1 pd0_1 px1_1 py1_1 pd1_1 v (sm_sb aC.out) (sm_sb aD.out)).mono ?_
     rintro e v26 ⟨x20,y20,d20,rfl,hs20,ht20,hb⟩
     have eC:=hJ hb
     clear hb
     have bG:=hJ (show Pq x20 y20 d20 from mid_pq aC.out aD.out hs20 ht20)
     clear hs20 ht20
     go_wp2_with fail
     have cC:=hJ (bt aB.out eC.out)
     clear hHeld
     refine hK.out _ _ (aK.out _ cC.out) (fun hHeld=>?_)
     clear hK K
     refine tq 8 ?_
     try simp only [PT]
     exact wpAnyH_cast (by kernel_rfl) (cB x20 y20 d20 v26 cC bG)
    have cD:∀ (v:World),Hid (Below wl1.heap.size wl1 v)→F 4 (Array.setIfInBounds L0 3 true) (Act.put a0 (some 23) (.agg #[.int .i64 px0_1,.int .i64 py0_1,.int .i64 pd0_1])) v:=by
     intro  v aB
     subst hF ha0 hL0
     simp only [PT] at aY ⊢
     have hHeld:=aK.out _ aB.out
     refine ryy [6] ?_
     refine .cons rfl (fun K hK=>?_) .nil
     have z27_0:=(OwnR.new aA.out aB.out).at 3 rfl
     have z27_1:=(OwnR.new aA.out aB.out).at 4 rfl
     have z27_2:=(OwnR.new aA.out aB.out).at 5 rfl
     go_simp
     clear hHeld
     refine hK.out _ _ (aK.out _ aB.out) (fun hHeld=>?_)
     clear hK K z27_0 z27_1 z27_2
     try simp only [PT]
     exact wpAnyH_cast (by kernel_rfl) (aY  v aB)
    have cE:∀ (v:World),Hid (Below wl1.heap.size wl1 v)→F 4 (Array.setIfInBounds L0 6 true) (Act.put a0 (some 26) (.agg #[.int .i64 px1_1,.int .i64 py1_1,.int .i64 pd1_1])) v:=by
     intro  v aB
     subst hF ha0 hL0
     simp only [PT] at aY ⊢
     have hHeld:=aK.out _ aB.out
     refine ryy [3] ?_
     refine .cons rfl (fun K hK=>?_) .nil
     have z28_0:=(OwnR.new aA.out aB.out).at 0 rfl
     have z28_1:=(OwnR.new aA.out aB.out).at 1 rfl
     have z28_2:=(OwnR.new aA.out aB.out).at 2 rfl
     go_simp
     clear hHeld
     refine hK.out _ _ (aK.out _ aB.out) (fun hHeld=>?_)
     clear hK K z28_0 z28_1 z28_2
     try simp only [PT]
     exact wpAnyH_cast (by kernel_rfl) (aY  v aB)
    subst hF ha0 hL0
    simp only [PT] at cD cE
    refine ryy [3,6] ?_
    refine .cons rfl (fun K hK=>?_) ?_
    have z29_0:=(OwnR.new aA.out aL.out).at 0 rfl
    have z29_1:=(OwnR.new aA.out aL.out).at 1 rfl
    have z29_2:=(OwnR.new aA.out aL.out).at 2 rfl
    go_simp
    clear hHeld
    refine hK.out _ _ (aK.out _ aL.out) (fun hHeld=>?_)
    clear hK K z29_0 z29_1 z29_2
    try simp only [PT]
    exact wpAnyH_cast (by kernel_rfl) (cD  v24 aL)
    refine .cons rfl (fun K hK=>?_) .nil
    have z30_0:=(OwnR.new aA.out aL.out).at 3 rfl
    have z30_1:=(OwnR.new aA.out aL.out).at 4 rfl
    have z30_2:=(OwnR.new aA.out aL.out).at 5 rfl
    go_simp
    clear hHeld
    refine hK.out _ _ (aK.out _ aL.out) (fun hHeld=>?_)
    clear hK K z30_0 z30_1 z30_2
    try simp only [PT]
    exact wpAnyH_cast (by kernel_rfl) (cE  v24 aL)
   ·have e0:(x19 == 0)=false:=by simp; omega
    have e1:(x19 == 1)=true:=by simp [hz]
    have e2:(x19 == 2)=false:=by simp; omega
    clear hz
    have aM:Hid (∀ w',Below wl1.heap.size wl1 w'→(fun w':World=>Below w.heap.size w w') w'):=hJ (fun w' hb=>(bt aG.out hb))
    go_wp2_with fail
    obtain ⟨v31,hv31⟩:=nmz (World.drew wl1)
    have aN:=hJ (show Below wl1.heap.size wl1 v31 by rw [←hv31]; exact (Below.refl _ _).drew)
    refine whd aM hv31 (fun hHeld=>?_)
    clear hv31
    refine tq 0 ?_
    refine tq 1 ?_
    refine tq 2 ?_
    refine tq 4 ?_
    refine tq 5 ?_
    try simp only [PT]
    refine wpAnyH_name (fun F hF a0 ha0 L0 hL0=>?_)
    have cF:∀ (x21:Int) (y21:Int) (d21:Int) (v:World),Hid (Below wl1.heap.size wl1 v)→Hid (Pq x21 y21 d21)→F 1 (Array.setIfInBounds (Array.setIfInBounds (Array.setIfInBounds (Array.setIfInBounds L0 3 true) 6 true) 7 true) 8 true) (Act.put (Act.put (Act.put (Act.put a0 (some 34) (.agg #[.int .i64 px0_1,.int .i64 py0_1,.int .i64 pd0_1])) (some 37) (.agg #[.int .i64 px1_1,.int .i64 py1_1,.int .i64 pd1_1])) (some 38) (.agg #[.int .i64 x21,.int .i64 y21,.int .i64 d21])) (some 39) (.pointer (some ⟨gx,6,none⟩))) v:=by
     intro x21 y21 d21 v aB bJ
     subst hF ha0 hL0
     simp only [PT] at  ⊢
     have hHeld:=aM.out _ aB.out
     refine ryy [9] ?_
     refine .cons rfl (fun K hK=>?_) .nil
     have aW:=hJ (OwnR.new aA.out aB.out)
     have z32_0:=aW.out.at 6 rfl
     have y32_0:=OwnR.frz aW.out 6
     have z32_1:=aW.out.at 7 rfl
     have y32_1:=OwnR.frz aW.out 7
     have z32_2:=aW.out.at 8 rfl
     have y32_2:=OwnR.frz aW.out 8
     go_simp
     obtain ⟨v32,hV⟩:=nmz (World.setCell (World.setCell (World.setCell v ⟨gx,6,none⟩ (.int .i64 x21)) ⟨gx,7,none⟩ (.int .i64 y21)) ⟨gx,8,none⟩ (.int .i64 d21))
     rw [hV]
     have bK:=hJ (show sto v gx 6 [.int .i64 x21,.int .i64 y21,.int .i64 d21]=v32 from hV)
     clear hV z32_0 y32_0 z32_1 y32_1 z32_2 y32_2
     have eD:=hJ (show Below w.heap.size w v32 by rw [←bK.out]; exact below_sto (bt aG.out aB.out) aR.out _ _)
     clear hHeld
     refine hK.out _ _ (eD.out) (fun hHeld=>?_)
     clear hK K
     try simp only [PT]
     refine wpAnyH_done (by kernel_rfl) ?_ _
     clear hHeld
     have eE:=hJ (show OwnR noU v32 w.heap.size 32 3 (.slice (some ⟨gx,0,none⟩) 4 cpx) 4 [.int .i64 px0_1,.int .i64 py0_1,.int .i64 pd0_1,.int .i64 px1_1,.int .i64 py1_1,.int .i64 pd1_1,.int .i64 x21,.int .i64 y21,.int .i64 d21,.int .i64 px3_1,.int .i64 py3_1,.int .i64 pd3_1] by rw [←bK.out]; exact OwnR.sto aW.out 6 [.int .i64 x21,.int .i64 y21,.int .i64 d21] rfl)
     have aF:=hJ (show Below w.heap.size w v32 by rw [←bK.out]; exact below_sto (bt aG.out aB.out) aR.out _ _)
     go_wp2
     go_ret
     exact ⟨gx,cpx,px0_1,py0_1,pd0_1,px1_1,py1_1,pd1_1,x21,y21,d21,px3_1,py3_1,pd3_1,rfl,own_bs6 eE.out (Nat.le_refl _),(sm_pq aC.out),(sm_pq aD.out),bJ.out,(sm_pq aT.out),aC.out,aD.out,aF.out⟩
    have aZ:∀ (v:World),Hid (Below wl1.heap.size wl1 v)→F 3 (Array.setIfInBounds (Array.setIfInBounds L0 3 true) 6 true) (Act.put (Act.put a0 (some 34) (.agg #[.int .i64 px0_1,.int .i64 py0_1,.int .i64 pd0_1])) (some 37) (.agg #[.int .i64 px1_1,.int .i64 py1_1,.int .i64 pd1_1])) v:=by
     intro  v aB
     subst hF ha0 hL0
     simp only [PT] at cF ⊢
     have hHeld:=aM.out _ aB.out
     refine ryy [7] ?_
     refine .cons rfl (fun K hK=>?_) .nil
     go_simp
     go_at_call 57
     refine (rmid_any px0_1 py0_1 pd0_1 px1_1 py1_1 pd1_1 v (sm_sb aC.out) (sm_sb aD.out)).mono ?_
     rintro e v33 ⟨x21,y21,d21,rfl,hs21,ht21,hb⟩
     have eF:=hJ hb
     clear hb
     have bJ:=hJ (show Pq x21 y21 d21 from mid_pq aC.out aD.out hs21 ht21)
     clear hs21 ht21
     go_wp2_with fail
     have cG:=hJ (bt aB.out eF.out)
     clear hHeld
     refine hK.out _ _ (aM.out _ cG.out) (fun hHeld=>?_)
     clear hK K
     refine tq 8 ?_
     try simp only [PT]
     exact wpAnyH_cast (by kernel_rfl) (cF x21 y21 d21 v33 cG bJ)
    have cH:∀ (v:World),Hid (Below wl1.heap.size wl1 v)→F 4 (Array.setIfInBounds L0 3 true) (Act.put a0 (some 34) (.agg #[.int .i64 px0_1,.int .i64 py0_1,.int .i64 pd0_1])) v:=by
     intro  v aB
     subst hF ha0 hL0
     simp only [PT] at aZ ⊢
     have hHeld:=aM.out _ aB.out
     refine ryy [6] ?_
     refine .cons rfl (fun K hK=>?_) .nil
     have z34_0:=(OwnR.new aA.out aB.out).at 3 rfl
     have z34_1:=(OwnR.new aA.out aB.out).at 4 rfl
     have z34_2:=(OwnR.new aA.out aB.out).at 5 rfl
     go_simp
     clear hHeld
     refine hK.out _ _ (aM.out _ aB.out) (fun hHeld=>?_)
     clear hK K z34_0 z34_1 z34_2
     try simp only [PT]
     exact wpAnyH_cast (by kernel_rfl) (aZ  v aB)
    have cI:∀ (v:World),Hid (Below wl1.heap.size wl1 v)→F 4 (Array.setIfInBounds L0 6 true) (Act.put a0 (some 37) (.agg #[.int .i64 px1_1,.int .i64 py1_1,.int .i64 pd1_1])) v:=by
     intro  v aB
     subst hF ha0 hL0
     simp only [PT] at aZ ⊢
     have hHeld:=aM.out _ aB.out
     refine ryy [3] ?_
     refine .cons rfl (fun K hK=>?_) .nil
     have z35_0:=(OwnR.new aA.out aB.out).at 0 rfl
     have z35_1:=(OwnR.new aA.out aB.out).at 1 rfl
     have z35_2:=(OwnR.new aA.out aB.out).at 2 rfl
     go_simp
     clear hHeld
     refine hK.out _ _ (aM.out _ aB.out) (fun hHeld=>?_)
     clear hK K z35_0 z35_1 z35_2
     try simp only [PT]
     exact wpAnyH_cast (by kernel_rfl) (aZ  v aB)
    subst hF ha0 hL0
    simp only [PT] at cH cI
    refine ryy [3,6] ?_
    refine .cons rfl (fun K hK=>?_) ?_
    have z36_0:=(OwnR.new aA.out aN.out).at 0 rfl
    have z36_1:=(OwnR.new aA.out aN.out).at 1 rfl
    have z36_2:=(OwnR.new aA.out aN.out).at 2 rfl
    go_simp
    clear hHeld
    refine hK.out _ _ (aM.out _ aN.out) (fun hHeld=>?_)
    clear hK K z36_0 z36_1 z36_2
    try simp only [PT]
    exact wpAnyH_cast (by kernel_rfl) (cH  v31 aN)
    refine .cons rfl (fun K hK=>?_) .nil
    have z37_0:=(OwnR.new aA.out aN.out).at 3 rfl
    have z37_1:=(OwnR.new aA.out aN.out).at 4 rfl
    have z37_2:=(OwnR.new aA.out aN.out).at 5 rfl
    go_simp
    clear hHeld
    refine hK.out _ _ (aM.out _ aN.out) (fun hHeld=>?_)
    clear hK K z37_0 z37_1 z37_2
    try simp only [PT]
    exact wpAnyH_cast (by kernel_rfl) (cI  v31 aN)
   ·have e0:(x19 == 0)=false:=by simp; omega
    have e1:(x19 == 1)=false:=by simp; omega
    have e2:(x19 == 2)=true:=by simp [hz]
    clear hz
    go_wp2_with fail
    refine (pickw_any (.slice A ln c) xs 5 4 wl1 aI.out (by decide) (by decide) (by decide)).mono ?_
    rintro e w38 ⟨⟨x22,rfl,hzx22⟩,rfl⟩
    have cJ:=hJ hzx22
    clear hzx22
    obtain ⟨jx22,hjx22⟩:∃ j:Nat,x22=(j:Int)∧j < 4:=⟨x22.toNat,by have:=cJ.out.1; omega,by have:=cJ.out.1; omega⟩
    obtain ⟨hjx22a,hjx22b⟩:=hjx22
    subst hjx22a
    have bL:=hJ hjx22b
    clear hjx22b
    go_wp2_with fail
    refine (pickw_any (.slice A ln c) xs 6 4 wl1 aI.out (by decide) (by decide) (by decide)).mono ?_
    rintro e w39 ⟨⟨x23,rfl,hzx23⟩,rfl⟩
    have cK:=hJ hzx23
    clear hzx23
    obtain ⟨jx23,hjx23⟩:∃ j:Nat,x23=(j:Int)∧j < 4:=⟨x23.toNat,by have:=cK.out.1; omega,by have:=cK.out.1; omega⟩
    obtain ⟨hjx23a,hjx23b⟩:=hjx23
    subst hjx23a
    have cL:=hJ hjx23b
    clear hjx23b
    obtain ⟨vx24,vy24,vd24,h0,h1,h2,h3⟩:∃ (vx24 vy24 vd24:Int),([.int .i64 px0_1,.int .i64 py0_1,.int .i64 pd0_1,.int .i64 px1_1,.int .i64 py1_1,.int .i64 pd1_1,.int .i64 px2_1,.int .i64 py2_1,.int .i64 pd2_1,.int .i64 px3_1,.int .i64 py3_1,.int .i64 pd3_1]:List Value)[jx23*3]?=some (.int .i64 vx24)∧([.int .i64 px0_1,.int .i64 py0_1,.int .i64 pd0_1,.int .i64 px1_1,.int .i64 py1_1,.int .i64 pd1_1,.int .i64 px2_1,.int .i64 py2_1,.int .i64 pd2_1,.int .i64 px3_1,.int .i64 py3_1,.int .i64 pd3_1]:List Value)[jx23*3+1]?=some (.int .i64 vy24)∧([.int .i64 px0_1,.int .i64 py0_1,.int .i64 pd0_1,.int .i64 px1_1,.int .i64 py1_1,.int .i64 pd1_1,.int .i64 px2_1,.int .i64 py2_1,.int .i64 pd2_1,.int .i64 px3_1,.int .i64 py3_1,.int .i64 pd3_1]:List Value)[jx23*3+2]?=some (.int .i64 vd24)∧Sm vx24 vy24 vd24:=by
     have hcs:jx23=0∨jx23=1∨jx23=2∨jx23=3:=by have:=cL.out; omega
     rcases hcs with rfl | rfl | rfl | rfl
     ·exact ⟨_,_,_,rfl,rfl,rfl,aC.out⟩
     ·exact ⟨_,_,_,rfl,rfl,rfl,aD.out⟩
     ·exact ⟨_,_,_,rfl,rfl,rfl,aO.out⟩
     exact ⟨_,_,_,rfl,rfl,rfl,aT.out⟩
    have eG:=hJ h0
    have eH:=hJ h1
    have eI:=hJ h2
    have bA:=hJ h3
    clear h0 h1 h2 h3
    have hjx23p:(0:Int)≤(jx23:Int):=by omega
    have hjx23q:(jx23:Int) < 4:=by have:=cL.out; omega
    have eJ:=aA.out.at (jx23*3) eG.out
    have eK:=aA.out.at (jx23*3+1) eH.out
    have eL:=aA.out.at (jx23*3+2) eI.out
    obtain ⟨vx25,vy25,vd25,h0,h1,h2,h3⟩:∃ (vx25 vy25 vd25:Int),([.int .i64 px0_1,.int .i64 py0_1,.int .i64 pd0_1,.int .i64 px1_1,.int .i64 py1_1,.int .i64 pd1_1,.int .i64 px2_1,.int .i64 py2_1,.int .i64 pd2_1,.int .i64 px3_1,.int .i64 py3_1,.int .i64 pd3_1]:List Value)[jx22*3]?=some (.int .i64 vx25)∧([.int .i64 px0_1,.int .i64 py0_1,.int .i64 pd0_1,.int .i64 px1_1,.int .i64 py1_1,.int .i64 pd1_1,.int .i64 px2_1,.int .i64 py2_1,.int .i64 pd2_1,.int .i64 px3_1,.int .i64 py3_1,.int .i64 pd3_1]:List Value)[jx22*3+1]?=some (.int .i64 vy25)∧([.int .i64 px0_1,.int .i64 py0_1,.int .i64 pd0_1,.int .i64 px1_1,.int .i64 py1_1,.int .i64 pd1_1,.int .i64 px2_1,.int .i64 py2_1,.int .i64 pd2_1,.int .i64 px3_1,.int .i64 py3_1,.int .i64 pd3_1]:List Value)[jx22*3+2]?=some (.int .i64 vd25)∧Sm vx25 vy25 vd25:=by
     have hcs:jx22=0∨jx22=1∨jx22=2∨jx22=3:=by have:=bL.out; omega
     rcases hcs with rfl | rfl | rfl | rfl
     ·exact ⟨_,_,_,rfl,rfl,rfl,aC.out⟩
     ·exact ⟨_,_,_,rfl,rfl,rfl,aD.out⟩
     ·exact ⟨_,_,_,rfl,rfl,rfl,aO.out⟩
     exact ⟨_,_,_,rfl,rfl,rfl,aT.out⟩
    have eM:=hJ h0
    have eN:=hJ h1
    have eO:=hJ h2
    clear h0 h1 h2 h3
    have hjx22p:(0:Int)≤(jx22:Int):=by omega
    have hjx22q:(jx22:Int) < 4:=by have:=bL.out; omega
    have eP:=OwnR.frz aA.out (jx22*3)
    have eQ:=aA.out.at (jx22*3) eM.out
    have eR:=OwnR.frz aA.out (jx22*3+1)
    have eS:=aA.out.at (jx22*3+1) eN.out
    have eT:=OwnR.frz aA.out (jx22*3+2)
    have eU:=aA.out.at (jx22*3+2) eO.out
    obtain ⟨x43,cM⟩:=nmz (World.setCell (World.setCell (World.setCell wl1 ⟨gx,jx22*3,none⟩ (.int .i64 vx24)) ⟨gx,jx22*3+1,none⟩ (.int .i64 vy24)) ⟨gx,jx22*3+2,none⟩ (.int .i64 vd24))
    have cN:=hJ (show sto wl1 gx (jx22*3) [.int .i64 vx24,.int .i64 vy24,.int .i64 vd24]=x43 from cM)
    have eV:=hJ (show OwnR noU x43 w.heap.size 32 3 (.slice (some ⟨gx,0,none⟩) 4 cpx) 4 (setL [.int .i64 px0_1,.int .i64 py0_1,.int .i64 pd0_1,.int .i64 px1_1,.int .i64 py1_1,.int .i64 pd1_1,.int .i64 px2_1,.int .i64 py2_1,.int .i64 pd2_1,.int .i64 px3_1,.int .i64 py3_1,.int .i64 pd3_1] (jx22*3) [.int .i64 vx24,.int .i64 vy24,.int .i64 vd24]) by rw [←cN.out]; exact OwnR.sto aA.out _ _ rfl)
    obtain ⟨u0n,v0n,d0n,u1n,v1n,d1n,u2n,v2n,d2n,u3n,v3n,d3n,he,hp0,hp1,hp2,hp3⟩:∃ u0n v0n d0n u1n v1n d1n u2n v2n d2n u3n v3n d3n:Int,setL [.int .i64 px0_1,.int .i64 py0_1,.int .i64 pd0_1,.int .i64 px1_1,.int .i64 py1_1,.int .i64 pd1_1,.int .i64 px2_1,.int .i64 py2_1,.int .i64 pd2_1,.int .i64 px3_1,.int .i64 py3_1,.int .i64 pd3_1] (jx22*3) [.int .i64 vx24,.int .i64 vy24,.int .i64 vd24]=[.int .i64 u0n,.int .i64 v0n,.int .i64 d0n,.int .i64 u1n,.int .i64 v1n,.int .i64 d1n,.int .i64 u2n,.int .i64 v2n,.int .i64 d2n,.int .i64 u3n,.int .i64 v3n,.int .i64 d3n]∧Sm u0n v0n d0n∧Sm u1n v1n d1n∧Sm u2n v2n d2n∧Sm u3n v3n d3n:=by
     have hcs:jx22=0∨jx22=1∨jx22=2∨jx22=3:=by have:=bL.out; omega
     rcases hcs with rfl | rfl | rfl | rfl
     ·exact ⟨_,_,_,_,_,_,_,_,_,_,_,_,rfl,bA.out,aD.out,aO.out,aT.out⟩
     ·exact ⟨_,_,_,_,_,_,_,_,_,_,_,_,rfl,aC.out,bA.out,aO.out,aT.out⟩
     ·exact ⟨_,_,_,_,_,_,_,_,_,_,_,_,rfl,aC.out,aD.out,bA.out,aT.out⟩
     exact ⟨_,_,_,_,_,_,_,_,_,_,_,_,rfl,aC.out,aD.out,aO.out,bA.out⟩
    have eW:=hJ he
    have cO:=hJ hp0
    have cP:=hJ hp1
    have eX:=hJ hp2
    have eY:=hJ hp3
    clear he hp0 hp1 hp2 hp3
    have eZ:=hJ (show OwnR noU x43 w.heap.size 32 3 (.slice (some ⟨gx,0,none⟩) 4 cpx) 4 [.int .i64 u0n,.int .i64 v0n,.int .i64 d0n,.int .i64 u1n,.int .i64 v1n,.int .i64 d1n,.int .i64 u2n,.int .i64 v2n,.int .i64 d2n,.int .i64 u3n,.int .i64 v3n,.int .i64 d3n] from (by have h:=eV.out; rw [eW.out] at h; exact h))
    have fA:=hJ (show Below w.heap.size w x43 by rw [←cN.out]; exact below_sto aG.out aR.out _ _)
    go_wp2
    clear hjx23p hjx23q eJ eK eL hjx22p hjx22q eP eQ eR eS eT eU cM
    go_ret
    exact ⟨gx,cpx,u0n,v0n,d0n,u1n,v1n,d1n,u2n,v2n,d2n,u3n,v3n,d3n,rfl,own_bs6 eZ.out (Nat.le_refl _),(sm_pq cO.out),(sm_pq cP.out),(sm_pq eX.out),(sm_pq eY.out),cO.out,cP.out,fA.out⟩
   ·have e0:(x19 == 0)=false:=by simp; omega
    have e1:(x19 == 1)=false:=by simp; omega
    have e2:(x19 == 2)=false:=by simp; omega
    clear hz
    go_wp2
    go_ret
    exact ⟨gx,cpx,px0_1,py0_1,pd0_1,px1_1,py1_1,pd1_1,px2_1,py2_1,pd2_1,px3_1,py3_1,pd3_1,rfl,own_bs6 aA.out (Nat.le_refl _),(sm_pq aC.out),(sm_pq aD.out),(sm_pq aO.out),(sm_pq aT.out),aC.out,aD.out,aG.out⟩
theorem own6_any (X Y D:Int) (w:World) (h:Pq X Y D) :
  Calls Tryz.prog 56 #[.agg #[.int .i64 X,.int .i64 Y,.int .i64 D]] w (RetOwn X Y D w):=by
 have aL:=hJ (show D≠0 by have:=h.1.1; omega)
 have aC:=hJ (show ((Lit.int .i64 X).wf=true∧(Lit.int .i64 Y).wf=true)∧(Lit.int .i64 D).wf=true from ⟨⟨WalkArith.wf_i64 (by have:=h.2.1; omega),WalkArith.wf_i64 (by have:=h.2.2; omega)⟩,WalkArith.wf_i64 (by have:=h.1; omega)⟩)
 clear h
 obtain ⟨x1,aD⟩:=nmz ((w.alloc (.cells #[.int .i64 X,.int .i64 Y,.int .i64 D] 32)).alloc (.cells #[.bool false,.slice none 0 0,.bool false,.slice none 0 0,.bool false,.slice none 0 0,.bool false,.slice none 0 0] 29))
 have aS:=hJ (show Below w.heap.size w x1 by rw [←aD]; exact (((Below.refl _ _).alloc (Nat.le_refl _) _).alloc (by simp only [World.size_alloc]; omega) _))
 have aH:=hJ (show BX 32 x1 w.heap.size #[.int .i64 X,.int .i64 Y,.int .i64 D] by rw [←aD]; exact ((BX.at rfl).alloc _))
 have aT:=hJ (show BX 29 x1 (w.heap.size+1) #[.bool false,.slice none 0 0,.bool false,.slice none 0 0,.bool false,.slice none 0 0,.bool false,.slice none 0 0] by rw [←aD]; exact (BX.at (by simp only [World.size_alloc])))
 have aU:=hJ (show w.heap.size≤w.heap.size+1 by omega)
 have aV:=aH.out.cell 0 rfl
 have aW:=aH.out.cell 2 rfl
 go_enter Tryz.func56,Tryz.ntmps56
 go_wp2_with fail
 clear aD aV aW
 refine (fof_any X D x1 aC.out.1.1 aC.out.2).mono ?_
 rw [show mkC D=0 from if_neg aL.out]
 rintro e w4 ⟨s11,A11,n11,c11,t11,B11,m11,d11,rfl,hr11,hb⟩
 have aM:=hJ hb
 have aX:=hJ hr11
 clear hb hr11
 obtain ⟨x5,aI⟩:=nmz (w4.alloc (.cells #[.bool s11,.slice A11 n11 c11,.bool t11,.slice B11 m11 d11] 27))
 have aJ:=hJ (show Below w4.heap.size w4 x5 by rw [←aI]; exact ((Below.refl _ _).alloc (Nat.le_refl _) _))
 have aY:=hJ (show BX 27 x5 w4.heap.size #[.bool s11,.slice A11 n11 c11,.bool t11,.slice B11 m11 d11] by rw [←aI]; exact (BX.at rfl))
 have aN:=hJ (bt aM.out aJ.out)
 have aO:=hJ (BX.new aH.out aN.out)
 have aZ:=aO.out.cell 1 rfl
 have bA:=aO.out.cell 2 rfl
 go_wp2_with fail
 clear aI aZ bA
 refine (fof_any Y D x5 aC.out.1.2 aC.out.2).mono ?_
 rw [show mkC D=0 from if_neg aL.out]
 rintro e w8 ⟨s12,A12,n12,c12,t12,B12,m12,d12,rfl,hr12,hb⟩
 have aF:=hJ hb
 have bB:=hJ hr12
 clear hb hr12
 obtain ⟨x9,aK⟩:=nmz (w8.alloc (.cells #[.bool s12,.slice A12 n12 c12,.bool t12,.slice B12 m12 d12] 27))
 have aB:=hJ (show Below w8.heap.size w8 x9 by rw [←aK]; exact ((Below.refl _ _).alloc (Nat.le_refl _) _))
 have bC:=hJ (show BX 27 x9 w8.heap.size #[.bool s12,.slice A12 n12 c12,.bool t12,.slice B12 m12 d12] by rw [←aK]; exact (BX.at rfl))
 have bD:=hJ (bt aF.out aB.out)
 have bE:=hJ (BX.new aY.out bD.out)
 obtain ⟨bF,bG,bH,bJ⟩:=bE.out.c4 0 1 2 3 rfl rfl rfl rfl
 obtain ⟨bK,bL,bM,bN⟩:=bC.out.c4 0 1 2 3 rfl rfl rfl rfl
 have bO:=hJ (bt (bt aN.out aF.out) aB.out)
 have aA:=hJ (BX.new aT.out bO.out)
 have bP:=aA.out.frozen 0
 have bQ:=aA.out.cell 0 rfl
 have bR:=aA.out.frozen 1
 have bS:=aA.out.cell 1 rfl
 have bT:=aA.out.frozen 2
 have bU:=aA.out.cell 2 rfl
 have bV:=aA.out.frozen 3
 have bW:=aA.out.cell 3 rfl
 have bX:=aA.out.frozen 4
 have bY:=aA.out.cell 4 rfl
 have bZ:=aA.out.frozen 5
 have cA:=aA.out.cell 5 rfl
 have cB:=aA.out.frozen 6
 have cC:=aA.out.cell 6 rfl
 have cD:=aA.out.frozen 7
 have cE:=aA.out.cell 7 rfl
 obtain ⟨x18,aR⟩:=nmz (World.setCell (World.setCell (World.setCell (World.setCell (World.setCell (World.setCell (World.setCell (World.setCell x9 ⟨w.heap.size+1,0,none⟩ (.bool s11)) ⟨w.heap.size+1,1,none⟩ (.slice A11 n11 c11)) ⟨w.heap.size+1,2,none⟩ (.bool t11)) ⟨w.heap.size+1,3,none⟩ (.slice B11 m11 d11)) ⟨w.heap.size+1,4,none⟩ (.bool s12)) ⟨w.heap.size+1,5,none⟩ (.slice A12 n12 c12)) ⟨w.heap.size+1,6,none⟩ (.bool t12)) ⟨w.heap.size+1,7,none⟩ (.slice B12 m12 d12))
 have aG:=hJ (show sto x9 (w.heap.size+1) 0 [.bool s11,.slice A11 n11 c11,.bool t11,.slice B11 m11 d11,.bool s12,.slice A12 n12 c12,.bool t12,.slice B12 m12 d12]=x18 from aR)
 have cF:=hJ (show BX 29 x18 (w.heap.size+1) #[.bool s11,.slice A11 n11 c11,.bool t11,.slice B11 m11 d11,.bool s12,.slice A12 n12 c12,.bool t12,.slice B12 m12 d12] by rw [←aG.out]; exact BX.put aA.out _ _)
 have cG:=hJ (show Below w.heap.size w x18 by rw [←aG.out]; exact below_sto (bt (bt (bt (bt aS.out aM.out) aJ.out) aF.out) aB.out) aU.out _ _)
 have cH:=hJ (bt (bt aJ.out aF.out) aB.out)
 have cI:=hJ (PF.new aX.out cH.out)
 have cJ:=hJ (show PF x18 s11 A11 n11 c11 t11 B11 m11 d11 (mkP X D) (mkQ X D) by rw [←aG.out]; exact PF.sto cI.out aA.out rfl _ _)
 have cK:=hJ (PF.new bB.out aB.out)
 have cL:=hJ (show PF x18 s12 A12 n12 c12 t12 B12 m12 d12 (mkP Y D) (mkQ Y D) by rw [←aG.out]; exact PF.sto cK.out aA.out rfl _ _)
 go_wp2
 clear aK bF bG bH bJ bK bL bM bN bP bQ bR bS bT bU bV bW bX bY bZ cA cB cC cD cE aR
 exact bodyPost_ret (results_cell1 rfl _ _ _ _ _ _ _ rfl cF.out Tryz.underlying29 rfl TP_size) rfl ⟨s11,A11,n11,c11,t11,B11,m11,d11,s12,A12,n12,c12,t12,B12,m12,d12,rfl,cJ.out,cL.out,cG.out⟩
theorem four6_any (x0 y0 d0 x1 y1 d1 x2 y2 d2 x3 y3 d3:Int) (g cap bs:Nat) (w:World) (ho:OwnR noU w bs 32 3 (.slice (some ⟨g,0,none⟩) 4 cap) 4 [.int .i64 x0,.int .i64 y0,.int .i64 d0,.int .i64 x1,.int .i64 y1,.int .i64 d1,.int .i64 x2,.int .i64 y2,.int .i64 d2,.int .i64 x3,.int .i64 y3,.int .i64 d3]) (hlt:g < w.heap.size) (h0:Pq x0 y0 d0) (h1:Pq x1 y1 d1) (h2:Pq x2 y2 d2) (h3:Pq x3 y3 d3) :
  Calls Tryz.prog 18 #[.slice (some ⟨g,0,none⟩) 4 cap] w fun e w'=>∃ (gq cpq:Nat) (sz0:Bool) (Az0:Option Addr) (nz0:Nat) (cz0:Nat) (tz0:Bool) (Bz0:Option Addr) (mz0:Nat) (dz0:Nat) (sz0b:Bool) (Az0b:Option Addr) (nz0b:Nat) (cz0b:Nat) (tz0b:Bool) (Bz0b:Option Addr) (mz0b:Nat) (dz0b:Nat) (sz1:Bool) (Az1:Option Addr) (nz1:Nat) (cz1:Nat) (tz1:Bool) (Bz1:Option Addr) (mz1:Nat) (dz1:Nat) (sz1b:Bool) (Az1b:Option Addr) (nz1b:Nat) (cz1b:Nat) (tz1b:Bool) (Bz1b:Option Addr) (mz1b:Nat) (dz1b:Nat) (sz2:Bool) (Az2:Option Addr) (nz2:Nat) (cz2:Nat) (tz2:Bool) (Bz2:Option Addr) (mz2:Nat) (dz2:Nat) (sz2b:Bool) (Az2b:Option Addr) (nz2b:Nat) (cz2b:Nat) (tz2b:Bool) (Bz2b:Option Addr) (mz2b:Nat) (dz2b:Nat) (sz3:Bool) (Az3:Option Addr) (nz3:Nat) (cz3:Nat) (tz3:Bool) (Bz3:Option Addr) (mz3:Nat) (dz3:Nat) (sz3b:Bool) (Az3b:Option Addr) (nz3b:Nat) (cz3b:Nat) (tz3b:Bool) (Bz3b:Option Addr) (mz3b:Nat) (dz3b:Nat),e=.returned (.tuple #[.slice (some ⟨gq,0,none⟩) 4 cpq,.bool true])∧OwnR noU w' w.heap.size 29 8 (.slice (some ⟨gq,0,none⟩) 4 cpq) 4 [.bool sz0,.slice Az0 nz0 cz0,.bool tz0,.slice Bz0 mz0 dz0,.bool sz0b,.slice Az0b nz0b cz0b,.bool tz0b,.slice Bz0b mz0b dz0b,.bool sz1,.slice Az1 nz1 cz1,.bool tz1,.slice Bz1 mz1 dz1,.bool sz1b,.slice Az1b nz1b cz1b,.bool tz1b,.slice Bz1b mz1b dz1b,.bool sz2,.slice Az2 nz2 cz2,.bool tz2,.slice Bz2 mz2 dz2,.bool sz2b,.slice Az2b nz2b cz2b,.bool tz2b,.slice Bz2b mz2b dz2b,.bool sz3,.slice Az3 nz3 cz3,.bool tz3,.slice Bz3 mz3 dz3,.bool sz3b,.slice Az3b nz3b cz3b,.bool tz3b,.slice Bz3b mz3b dz3b]∧gq < w'.heap.size∧PF w' sz0 Az0 nz0 cz0 tz0 Bz0 mz0 dz0 (mkP x0 d0) (mkQ x0 d0)∧PF w' sz0b Az0b nz0b cz0b tz0b Bz0b mz0b dz0b (mkP y0 d0) (mkQ y0 d0)∧PF w' sz1 Az1 nz1 cz1 tz1 Bz1 mz1 dz1 (mkP x1 d1) (mkQ x1 d1)∧PF w' sz1b Az1b nz1b cz1b tz1b Bz1b mz1b dz1b (mkP y1 d1) (mkQ y1 d1)∧PF w' sz2 Az2 nz2 cz2 tz2 Bz2 mz2 dz2 (mkP x2 d2) (mkQ x2 d2)∧PF w' sz2b Az2b nz2b cz2b tz2b Bz2b mz2b dz2b (mkP y2 d2) (mkQ y2 d2)∧PF w' sz3 Az3 nz3 cz3 tz3 Bz3 mz3 dz3 (mkP x3 d3) (mkQ x3 d3)∧PF w' sz3b Az3b nz3b cz3b tz3b Bz3b mz3b dz3b (mkP y3 d3) (mkQ y3 d3)∧Below w.heap.size w w':=by
 have aY:=hJ ho
 have cL:=hJ h0
 have cM:=hJ h1
 have cN:=hJ h2
 have cO:=hJ h3
 clear ho hlt h0 h1 h2 h3
 go_enter Tryz.func18,Tryz.ntmps18
 go_wp2_with fail
 obtain ⟨i29,hi29,hz29,hs29,hy29⟩:=info_parts (show (Tryz.prog.info? 29).map (fun i=>(i.zero,i.size,i.bytes))=some (some (.agg #[.bool false,.slice none 0 0,.bool false,.slice none 0 0,.bool false,.slice none 0 0,.bool false,.slice none 0 0]),8,128) by kernel_rfl)
 have aB:=hJ (And.intro hi29 (And.intro hz29 (And.intro hs29 hy29)))
 clear hi29 hz29 hs29 hy29
 go_loopw [5,4] (fun tv tx wr=>∃ i:Nat,tv=.int .i64 (i:Int)∧Below w.heap.size w wr∧((i=0∧tx=.slice none 0 0)∨(i=1∧∃ (gx cpx:Nat) (sx0:Bool) (Ax0:Option Addr) (nx0:Nat) (cx0:Nat) (tx0:Bool) (Bx0:Option Addr) (mx0:Nat) (dx0:Nat) (sx0b:Bool) (Ax0b:Option Addr) (nx0b:Nat) (cx0b:Nat) (tx0b:Bool) (Bx0b:Option Addr) (mx0b:Nat) (dx0b:Nat),tx=.slice (some ⟨gx,0,none⟩) 1 cpx∧Hid (OwnR noU wr w.heap.size 29 8 (.slice (some ⟨gx,0,none⟩) 1 cpx) 1 [.bool sx0,.slice Ax0 nx0 cx0,.bool tx0,.slice Bx0 mx0 dx0,.bool sx0b,.slice Ax0b nx0b cx0b,.bool tx0b,.slice Bx0b mx0b dx0b])∧Hid (w.heap.size≤gx)∧Hid (gx < wr.heap.size)∧Hid (PF wr sx0 Ax0 nx0 cx0 tx0 Bx0 mx0 dx0 (mkP x0 d0) (mkQ x0 d0))∧Hid (PF wr sx0b Ax0b nx0b cx0b tx0b Bx0b mx0b dx0b (mkP y0 d0) (mkQ y0 d0)))∨(i=2∧∃ (gx cpx:Nat) (sx0:Bool) (Ax0:Option Addr) (nx0:Nat) (cx0:Nat) (tx0:Bool) (Bx0:Option Addr) (mx0:Nat) (dx0:Nat) (sx0b:Bool) (Ax0b:Option Addr) (nx0b:Nat) (cx0b:Nat) (tx0b:Bool) (Bx0b:Option Addr) (mx0b:Nat) (dx0b:Nat) (sx1:Bool) (Ax1:Option Addr) (nx1:Nat) (cx1:Nat) (tx1:Bool) (Bx1:Option Addr) (mx1:Nat) (dx1:Nat) (sx1b:Bool) (Ax1b:Option Addr) (nx1b:Nat) (cx1b:Nat) (tx1b:Bool) (Bx1b:Option Addr) (mx1b:Nat) (dx1b:Nat),tx=.slice (some ⟨gx,0,none⟩) 2 cpx∧Hid (OwnR noU wr w.heap.size 29 8 (.slice (some ⟨gx,0,none⟩) 2 cpx) 2 [.bool sx0,.slice Ax0 nx0 cx0,.bool tx0,.slice Bx0 mx0 dx0,.bool sx0b,.slice Ax0b nx0b cx0b,.bool tx0b,.slice Bx0b mx0b dx0b,.bool sx1,.slice Ax1 nx1 cx1,.bool tx1,.slice Bx1 mx1 dx1,.bool sx1b,.slice Ax1b nx1b cx1b,.bool tx1b,.slice Bx1b mx1b dx1b])∧Hid (w.heap.size≤gx)∧Hid (gx < wr.heap.size)∧Hid (PF wr sx0 Ax0 nx0 cx0 tx0 Bx0 mx0 dx0 (mkP x0 d0) (mkQ x0 d0))∧Hid (PF wr sx0b Ax0b nx0b cx0b tx0b Bx0b mx0b dx0b (mkP y0 d0) (mkQ y0 d0))∧Hid (PF wr sx1 Ax1 nx1 cx1 tx1 Bx1 mx1 dx1 (mkP x1 d1) (mkQ x1 d1))∧Hid (PF wr sx1b Ax1b nx1b cx1b tx1b Bx1b mx1b dx1b (mkP y1 d1) (mkQ y1 d1)))∨(i=3∧∃ (gx cpx:Nat) (sx0:Bool) (Ax0:Option Addr) (nx0:Nat) (cx0:Nat) (tx0:Bool) (Bx0:Option Addr) (mx0:Nat) (dx0:Nat) (sx0b:Bool) (Ax0b:Option Addr) (nx0b:Nat) (cx0b:Nat) (tx0b:Bool) (Bx0b:Option Addr) (mx0b:Nat) (dx0b:Nat) (sx1:Bool) (Ax1:Option Addr) (nx1:Nat) (cx1:Nat) (tx1:Bool) (Bx1:Option Addr) (mx1:Nat) (dx1:Nat) (sx1b:Bool) (Ax1b:Option Addr) (nx1b:Nat) (cx1b:Nat) (tx1b:Bool) (Bx1b:Option Addr) (mx1b:Nat) (dx1b:Nat) (sx2:Bool) (Ax2:Option Addr) (nx2:Nat) (cx2:Nat) (tx2:Bool) (Bx2:Option Addr) (mx2:Nat) (dx2:Nat) (sx2b:Bool) (Ax2b:Option Addr) (nx2b:Nat) (cx2b:Nat) (tx2b:Bool) (Bx2b:Option Addr) (mx2b:Nat) (dx2b:Nat),tx=.slice (some ⟨gx,0,none⟩) 3 cpx∧Hid (OwnR noU wr w.heap.size 29 8 (.slice (some ⟨gx,0,none⟩) 3 cpx) 3 [.bool sx0,.slice Ax0 nx0 cx0,.bool tx0,.slice Bx0 mx0 dx0,.bool sx0b,.slice Ax0b nx0b cx0b,.bool tx0b,.slice Bx0b mx0b dx0b,.bool sx1,.slice Ax1 nx1 cx1,.bool tx1,.slice Bx1 mx1 dx1,.bool sx1b,.slice Ax1b nx1b cx1b,.bool tx1b,.slice Bx1b mx1b dx1b,.bool sx2,.slice Ax2 nx2 cx2,.bool tx2,.slice Bx2 mx2 dx2,.bool sx2b,.slice Ax2b nx2b cx2b,.bool tx2b,.slice Bx2b mx2b dx2b])∧Hid (w.heap.size≤gx)∧Hid (gx < wr.heap.size)∧Hid (PF wr sx0 Ax0 nx0 cx0 tx0 Bx0 mx0 dx0 (mkP x0 d0) (mkQ x0 d0))∧Hid (PF wr sx0b Ax0b nx0b cx0b tx0b Bx0b mx0b dx0b (mkP y0 d0) (mkQ y0 d0))∧Hid (PF wr sx1 Ax1 nx1 cx1 tx1 Bx1 mx1 dx1 (mkP x1 d1) (mkQ x1 d1))∧Hid (PF wr sx1b Ax1b nx1b cx1b tx1b Bx1b mx1b dx1b (mkP y1 d1) (mkQ y1 d1))∧Hid (PF wr sx2 Ax2 nx2 cx2 tx2 Bx2 mx2 dx2 (mkP x2 d2) (mkQ x2 d2))∧Hid (PF wr sx2b Ax2b nx2b cx2b tx2b Bx2b mx2b dx2b (mkP y2 d2) (mkQ y2 d2)))∨(i=4∧∃ (gx cpx:Nat) (sx0:Bool) (Ax0:Option Addr) (nx0:Nat) (cx0:Nat) (tx0:Bool) (Bx0:Option Addr) (mx0:Nat) (dx0:Nat) (sx0b:Bool) (Ax0b:Option Addr) (nx0b:Nat) (cx0b:Nat) (tx0b:Bool) (Bx0b:Option Addr) (mx0b:Nat) (dx0b:Nat) (sx1:Bool) (Ax1:Option Addr) (nx1:Nat) (cx1:Nat) (tx1:Bool) (Bx1:Option Addr) (mx1:Nat) (dx1:Nat) (sx1b:Bool) (Ax1b:Option Addr) (nx1b:Nat) (cx1b:Nat) (tx1b:Bool) (Bx1b:Option Addr) (mx1b:Nat) (dx1b:Nat) (sx2:Bool) (Ax2:Option Addr) (nx2:Nat) (cx2:Nat) (tx2:Bool) (Bx2:Option Addr) (mx2:Nat) (dx2:Nat) (sx2b:Bool) (Ax2b:Option Addr) (nx2b:Nat) (cx2b:Nat) (tx2b:Bool) (Bx2b:Option Addr) (mx2b:Nat) (dx2b:Nat) (sx3:Bool) (Ax3:Option Addr) (nx3:Nat) (cx3:Nat) (tx3:Bool) (Bx3:Option Addr) (mx3:Nat) (dx3:Nat) (sx3b:Bool) (Ax3b:Option Addr) (nx3b:Nat) (cx3b:Nat) (tx3b:Bool) (Bx3b:Option Addr) (mx3b:Nat) (dx3b:Nat),tx=.slice (some ⟨gx,0,none⟩) 4 cpx∧Hid (OwnR noU wr w.heap.size 29 8 (.slice (some ⟨gx,0,none⟩) 4 cpx) 4 [.bool sx0,.slice Ax0 nx0 cx0,.bool tx0,.slice Bx0 mx0 dx0,.bool sx0b,.slice Ax0b nx0b cx0b,.bool tx0b,.slice Bx0b mx0b dx0b,.bool sx1,.slice Ax1 nx1 cx1,.bool tx1,.slice Bx1 mx1 dx1,.bool sx1b,.slice Ax1b nx1b cx1b,.bool tx1b,.slice Bx1b mx1b dx1b,.bool sx2,.slice Ax2 nx2 cx2,.bool tx2,.slice Bx2 mx2 dx2,.bool sx2b,.slice Ax2b nx2b cx2b,.bool tx2b,.slice Bx2b mx2b dx2b,.bool sx3,.slice Ax3 nx3 cx3,.bool tx3,.slice Bx3 mx3 dx3,.bool sx3b,.slice Ax3b nx3b cx3b,.bool tx3b,.slice Bx3b mx3b dx3b])∧Hid (w.heap.size≤gx)∧Hid (gx < wr.heap.size)∧Hid (PF wr sx0 Ax0 nx0 cx0 tx0 Bx0 mx0 dx0 (mkP x0 d0) (mkQ x0 d0))∧Hid (PF wr sx0b Ax0b nx0b cx0b tx0b Bx0b mx0b dx0b (mkP y0 d0) (mkQ y0 d0))∧Hid (PF wr sx1 Ax1 nx1 cx1 tx1 Bx1 mx1 dx1 (mkP x1 d1) (mkQ x1 d1))∧Hid (PF wr sx1b Ax1b nx1b cx1b tx1b Bx1b mx1b dx1b (mkP y1 d1) (mkQ y1 d1))∧Hid (PF wr sx2 Ax2 nx2 cx2 tx2 Bx2 mx2 dx2 (mkP x2 d2) (mkQ x2 d2))∧Hid (PF wr sx2b Ax2b nx2b cx2b tx2b Bx2b mx2b dx2b (mkP y2 d2) (mkQ y2 d2))∧Hid (PF wr sx3 Ax3 nx3 cx3 tx3 Bx3 mx3 dx3 (mkP x3 d3) (mkQ x3 d3))∧Hid (PF wr sx3b Ax3b nx3b cx3b tx3b Bx3b mx3b dx3b (mkP y3 d3) (mkQ y3 d3))))) (fun tv _ _=>4 - (intOf tv).toNat)
 case atStart=>exact ⟨0,rfl,Below.refl _ _,.inl ⟨rfl,rfl⟩⟩
 case round =>
  obtain ⟨i1,rfl,hbel,hdis⟩:=hrel
  obtain ⟨wl1,rfl⟩:∃ W:World,W=wr:=⟨_,rfl⟩
  have aH:=hJ hbel
  clear hbel
  rcases hdis with ⟨rfl,rfl⟩ | ⟨rfl,gx,cpx,sx0,Ax0,nx0,cx0,tx0,Bx0,mx0,dx0,sx0b,Ax0b,nx0b,cx0b,tx0b,Bx0b,mx0b,dx0b,rfl,aK,bA,aZ,aL,aM⟩ | ⟨rfl,gx,cpx,sx0,Ax0,nx0,cx0,tx0,Bx0,mx0,dx0,sx0b,Ax0b,nx0b,cx0b,tx0b,Bx0b,mx0b,dx0b,sx1,Ax1,nx1,cx1,tx1,Bx1,mx1,dx1,sx1b,Ax1b,nx1b,cx1b,tx1b,Bx1b,mx1b,dx1b,rfl,aK,bA,aZ,aL,aM,aR,aS⟩ | ⟨rfl,gx,cpx,sx0,Ax0,nx0,cx0,tx0,Bx0,mx0,dx0,sx0b,Ax0b,nx0b,cx0b,tx0b,Bx0b,mx0b,dx0b,sx1,Ax1,nx1,cx1,tx1,Bx1,mx1,dx1,sx1b,Ax1b,nx1b,cx1b,tx1b,Bx1b,mx1b,dx1b,sx2,Ax2,nx2,cx2,tx2,Bx2,mx2,dx2,sx2b,Ax2b,nx2b,cx2b,tx2b,Bx2b,mx2b,dx2b,rfl,aK,bA,aZ,aL,aM,aR,aS,bB,bC⟩ | ⟨rfl,gx,cpx,sx0,Ax0,nx0,cx0,tx0,Bx0,mx0,dx0,sx0b,Ax0b,nx0b,cx0b,tx0b,Bx0b,mx0b,dx0b,sx1,Ax1,nx1,cx1,tx1,Bx1,mx1,dx1,sx1b,Ax1b,nx1b,cx1b,tx1b,Bx1b,mx1b,dx1b,sx2,Ax2,nx2,cx2,tx2,Bx2,mx2,dx2,sx2b,Ax2b,nx2b,cx2b,tx2b,Bx2b,mx2b,dx2b,sx3,Ax3,nx3,cx3,tx3,Bx3,mx3,dx3,sx3b,Ax3b,nx3b,cx3b,tx3b,Bx3b,mx3b,dx3b,rfl,aK,bA,aZ,aL,aM,aR,aS,bB,bC,cP,cQ⟩
  ·(try rw [show ((0:Nat):Int)=0 from rfl])
   have aC:=hJ (OwnR.new aY.out aH.out)
   have cR:=aC.out.at 0 rfl
   have cS:=aC.out.at 1 rfl
   have cT:=aC.out.at 2 rfl
   go_wp2_with fail
   clear cR cS cT
   refine (own6_any x0 y0 d0 wl1 cL.out).mono ?_
   rintro e w5 ⟨s11,A11,n11,c11,t11,B11,m11,d11,s11b,A11b,n11b,c11b,t11b,B11b,m11b,d11b,rfl,hr11,hs11,hb⟩
   have cU:=hJ hb
   have cV:=hJ hr11
   have cW:=hJ hs11
   clear hb hr11 hs11
   obtain ⟨x6,bD⟩:=nmz (w5.alloc (.cells #[.bool s11,.slice A11 n11 c11,.bool t11,.slice B11 m11 d11,.bool s11b,.slice A11b n11b c11b,.bool t11b,.slice B11b m11b d11b] 29))
   have bX:=hJ (show Below w5.heap.size w5 x6 by rw [←bD]; exact ((Below.refl _ _).alloc (Nat.le_refl _) _))
   have cX:=hJ (show BX 29 x6 w5.heap.size #[.bool s11,.slice A11 n11 c11,.bool t11,.slice B11 m11 d11,.bool s11b,.slice A11b n11b c11b,.bool t11b,.slice B11b m11b d11b] by rw [←bD]; exact (BX.at rfl))
   obtain ⟨cY,cZ,dA,dB,dD,dE,dF,dG⟩:=cX.out.q8 0 1 2 3 4 5 6 7
   obtain ⟨x15,bE⟩:=nmz (x6.alloc (.cells #[.bool s11,.slice A11 n11 c11,.bool t11,.slice B11 m11 d11,.bool s11b,.slice A11b n11b c11b,.bool t11b,.slice B11b m11b d11b] 29))
   have bY:=hJ (show Below x6.heap.size x6 x15 by rw [←bE]; exact ((Below.refl _ _).alloc (Nat.le_refl _) _))
   have dH:=hJ (show BX 29 x15 x6.heap.size #[.bool s11,.slice A11 n11 c11,.bool t11,.slice B11 m11 d11,.bool s11b,.slice A11b n11b c11b,.bool t11b,.slice B11b m11b d11b] by rw [←bE]; exact (BX.at rfl))
   have bZ:=hJ (OwnR.nil noU x15 w.heap.size 29 8)
   have aD:=hJ (bt (bt (bt aH.out cU.out) bX.out) bY.out)
   go_wp2_with (at_builtin; refine wpList_append_okv noU rfl _ _ 52 rfl w.heap.size 29 i29 _ 8 128 Tryz.underlying52 aB.out.1 aB.out.2.1 aB.out.2.2.1 aB.out.2.2.2 rfl rfl (by decide) (.slice none 0 0) 0 [] rfl bZ.out ⟨x6.heap.size,0,none⟩ 1 1 [.bool s11,.slice A11 n11 c11,.bool t11,.slice B11 m11 d11,.bool s11b,.slice A11b n11b c11b,.bool t11b,.slice B11b m11b d11b] rfl rfl (BX.news dH.out) (List.all_eq_true (p:=Value.oneCell')|>.1 rfl) rfl (by unfold maxLen; omega) (by omega) (aD.out).size (by decide) ?_; intro va wa hown hgrow; refine stop_here (fun q aF=>?_))
   clear bD cY cZ dA dB dD dE dF dG bE
   rw [aF.out]
   clear aF q
   have hown:OwnR noU wa w.heap.size 29 8 va 1 [.bool s11,.slice A11 n11 c11,.bool t11,.slice B11 m11 d11,.bool s11b,.slice A11b n11b c11b,.bool t11b,.slice B11b m11b d11b]:=hown
   obtain ⟨cA,cB,rfl,hg1,hg2,hcap,_⟩:=hown.row (by decide)
   obtain ⟨w17,rfl⟩:∃ W,W=wa:=⟨_,rfl⟩
   have dI:=hJ (show OwnR noU w17 w.heap.size 29 8 (.slice (some ⟨cA,0,none⟩) 1 cB) 1 [.bool s11,.slice A11 n11 c11,.bool t11,.slice B11 m11 d11,.bool s11b,.slice A11b n11b c11b,.bool t11b,.slice B11b m11b d11b] from hown)
   have dJ:=hJ hg1
   have dK:=hJ hg2
   have bF:=hJ hgrow
   clear hown hg1 hg2 hgrow hcap
   have aN:=hJ (show Below w.heap.size w w17 from Grew.below aD.out bF.out bZ.out (Nat.le_refl _) (aD.out).size)
   have dL:=hJ dK.out
   have aG:=hJ (bt bX.out bY.out)
   have dM:=hJ (PF.new cV.out aG.out)
   have dN:=hJ (show PF w17 s11 A11 n11 c11 t11 B11 m11 d11 (mkP x0 d0) (mkQ x0 d0) from PF.grow dM.out bF.out (fun _=>rfl))
   have dO:=hJ (PF.new cW.out aG.out)
   have dP:=hJ (show PF w17 s11b A11b n11b c11b t11b B11b m11b d11b (mkP y0 d0) (mkQ y0 d0) from PF.grow dO.out bF.out (fun _=>rfl))
   go_wp2_with fail
   go_roundw
   case rel=>exact ⟨1,by go_num,aN.out,.inr (.inl ⟨rfl,cA,cB,s11,A11,n11,c11,t11,B11,m11,d11,s11b,A11b,n11b,c11b,t11b,B11b,m11b,d11b,rfl,dI,dJ,dL,hJ dN.out,hJ dP.out⟩)⟩
   case measure=>simp [intOf] <;> omega
  ·(try rw [show ((1:Nat):Int)=1 from rfl])
   have aC:=hJ (OwnR.new aY.out aH.out)
   have dQ:=aC.out.at 3 rfl
   have dR:=aC.out.at 4 rfl
   have dS:=aC.out.at 5 rfl
   go_wp2_with fail
   clear dQ dR dS
   refine (own6_any x1 y1 d1 wl1 cM.out).mono ?_
   rintro e w22 ⟨s12,A12,n12,c12,t12,B12,m12,d12,s12b,A12b,n12b,c12b,t12b,B12b,m12b,d12b,rfl,hr12,hs12,hb⟩
   have cC:=hJ hb
   have dT:=hJ hr12
   have dU:=hJ hs12
   clear hb hr12 hs12
   obtain ⟨x23,bG⟩:=nmz (w22.alloc (.cells #[.bool s12,.slice A12 n12 c12,.bool t12,.slice B12 m12 d12,.bool s12b,.slice A12b n12b c12b,.bool t12b,.slice B12b m12b d12b] 29))
   have bH:=hJ (show Below w22.heap.size w22 x23 by rw [←bG]; exact ((Below.refl _ _).alloc (Nat.le_refl _) _))
   have dW:=hJ (show BX 29 x23 w22.heap.size #[.bool s12,.slice A12 n12 c12,.bool t12,.slice B12 m12 d12,.bool s12b,.slice A12b n12b c12b,.bool t12b,.slice B12b m12b d12b] by rw [←bG]; exact (BX.at rfl))
   obtain ⟨dX,dY,dZ,eA,eB,eC,eD,eE⟩:=dW.out.q8 0 1 2 3 4 5 6 7
   obtain ⟨x32,bJ⟩:=nmz (x23.alloc (.cells #[.bool s12,.slice A12 n12 c12,.bool t12,.slice B12 m12 d12,.bool s12b,.slice A12b n12b c12b,.bool t12b,.slice B12b m12b d12b] 29))
   have bK:=hJ (show Below x23.heap.size x23 x32 by rw [←bJ]; exact ((Below.refl _ _).alloc (Nat.le_refl _) _))
   have eF:=hJ (show BX 29 x32 x23.heap.size #[.bool s12,.slice A12 n12 c12,.bool t12,.slice B12 m12 d12,.bool s12b,.slice A12b n12b c12b,.bool t12b,.slice B12b m12b d12b] by rw [←bJ]; exact (BX.at rfl))
   have aA:=hJ (bt (bt cC.out bH.out) bK.out)
   have aJ:=hJ (OwnR.new aK.out aA.out)
   have aD:=hJ (bt (bt (bt aH.out cC.out) bH.out) bK.out)
   go_wp2_with (at_builtin; refine wpList_append_okv noU rfl _ _ 52 rfl w.heap.size 29 i29 _ 8 128 Tryz.underlying52 aB.out.1 aB.out.2.1 aB.out.2.2.1 aB.out.2.2.2 rfl rfl (by decide) (.slice (some ⟨gx,0,none⟩) 1 cpx) 1 [.bool sx0,.slice Ax0 nx0 cx0,.bool tx0,.slice Bx0 mx0 dx0,.bool sx0b,.slice Ax0b nx0b cx0b,.bool tx0b,.slice Bx0b mx0b dx0b] rfl aJ.out ⟨x23.heap.size,0,none⟩ 1 1 [.bool s12,.slice A12 n12 c12,.bool t12,.slice B12 m12 d12,.bool s12b,.slice A12b n12b c12b,.bool t12b,.slice B12b m12b d12b] rfl rfl (BX.news eF.out) (List.all_eq_true (p:=Value.oneCell')|>.1 rfl) rfl (by unfold maxLen; omega) (by omega) (aD.out).size (by decide) ?_; intro va wa hown hgrow; refine stop_here (fun q aF=>?_))
   clear bG dX dY dZ eA eB eC eD eE bJ
   rw [aF.out]
   clear aF q
   have hown:OwnR noU wa w.heap.size 29 8 va 2 [.bool sx0,.slice Ax0 nx0 cx0,.bool tx0,.slice Bx0 mx0 dx0,.bool sx0b,.slice Ax0b nx0b cx0b,.bool tx0b,.slice Bx0b mx0b dx0b,.bool s12,.slice A12 n12 c12,.bool t12,.slice B12 m12 d12,.bool s12b,.slice A12b n12b c12b,.bool t12b,.slice B12b m12b d12b]:=hown
   obtain ⟨cD,cE,rfl,hg1,hg2,hcap,_⟩:=hown.row (by decide)
   obtain ⟨w33,rfl⟩:∃ W,W=wa:=⟨_,rfl⟩
   have eG:=hJ (show OwnR noU w33 w.heap.size 29 8 (.slice (some ⟨cD,0,none⟩) 2 cE) 2 [.bool sx0,.slice Ax0 nx0 cx0,.bool tx0,.slice Bx0 mx0 dx0,.bool sx0b,.slice Ax0b nx0b cx0b,.bool tx0b,.slice Bx0b mx0b dx0b,.bool s12,.slice A12 n12 c12,.bool t12,.slice B12 m12 d12,.bool s12b,.slice A12b n12b c12b,.bool t12b,.slice B12b m12b d12b] from hown)
   have eH:=hJ hg1
   have eI:=hJ hg2
   have aT:=hJ hgrow
   clear hown hg1 hg2 hgrow hcap
   have aN:=hJ (show Below w.heap.size w w33 from Grew.below aD.out aT.out aJ.out (Nat.le_refl _) (aD.out).size)
   have eJ:=hJ eI.out
   have aU:=hJ (PF.new aL.out aA.out)
   have aV:=hJ (show PF w33 sx0 Ax0 nx0 cx0 tx0 Bx0 mx0 dx0 (mkP x0 d0) (mkQ x0 d0) from PF.grow aU.out aT.out (fun _=>rfl))
   have aW:=hJ (PF.new aM.out aA.out)
   have aX:=hJ (show PF w33 sx0b Ax0b nx0b cx0b tx0b Bx0b mx0b dx0b (mkP y0 d0) (mkQ y0 d0) from PF.grow aW.out aT.out (fun _=>rfl))
   have aG:=hJ (bt bH.out bK.out)
   have eK:=hJ (PF.new dT.out aG.out)
   have eL:=hJ (show PF w33 s12 A12 n12 c12 t12 B12 m12 d12 (mkP x1 d1) (mkQ x1 d1) from PF.grow eK.out aT.out (fun _=>rfl))
   have eM:=hJ (PF.new dU.out aG.out)
   have eN:=hJ (show PF w33 s12b A12b n12b c12b t12b B12b m12b d12b (mkP y1 d1) (mkQ y1 d1) from PF.grow eM.out aT.out (fun _=>rfl))
   go_wp2_with fail
   go_roundw
   case rel=>exact ⟨2,by go_num,aN.out,.inr (.inr (.inl ⟨rfl,cD,cE,sx0,Ax0,nx0,cx0,tx0,Bx0,mx0,dx0,sx0b,Ax0b,nx0b,cx0b,tx0b,Bx0b,mx0b,dx0b,s12,A12,n12,c12,t12,B12,m12,d12,s12b,A12b,n12b,c12b,t12b,B12b,m12b,d12b,rfl,eG,eH,eJ,hJ aV.out,hJ aX.out,hJ eL.out,hJ eN.out⟩))⟩
   case measure=>simp [intOf] <;> omega
  ·(try rw [show ((2:Nat):Int)=2 from rfl])
   have aC:=hJ (OwnR.new aY.out aH.out)
   have eO:=aC.out.at 6 rfl
   have eP:=aC.out.at 7 rfl
   have eQ:=aC.out.at 8 rfl
   go_wp2_with fail
   clear eO eP eQ
   refine (own6_any x2 y2 d2 wl1 cN.out).mono ?_
   rintro e w38 ⟨s13,A13,n13,c13,t13,B13,m13,d13,s13b,A13b,n13b,c13b,t13b,B13b,m13b,d13b,rfl,hr13,hs13,hb⟩
   have cF:=hJ hb
   have eR:=hJ hr13
   have eS:=hJ hs13
   clear hb hr13 hs13
   obtain ⟨x39,bL⟩:=nmz (w38.alloc (.cells #[.bool s13,.slice A13 n13 c13,.bool t13,.slice B13 m13 d13,.bool s13b,.slice A13b n13b c13b,.bool t13b,.slice B13b m13b d13b] 29))
   have bM:=hJ (show Below w38.heap.size w38 x39 by rw [←bL]; exact ((Below.refl _ _).alloc (Nat.le_refl _) _))
   have eT:=hJ (show BX 29 x39 w38.heap.size #[.bool s13,.slice A13 n13 c13,.bool t13,.slice B13 m13 d13,.bool s13b,.slice A13b n13b c13b,.bool t13b,.slice B13b m13b d13b] by rw [←bL]; exact (BX.at rfl))
   obtain ⟨eU,eV,eW,eX,eY,eZ,fA,fB⟩:=eT.out.q8 0 1 2 3 4 5 6 7
   obtain ⟨x48,bN⟩:=nmz (x39.alloc (.cells #[.bool s13,.slice A13 n13 c13,.bool t13,.slice B13 m13 d13,.bool s13b,.slice A13b n13b c13b,.bool t13b,.slice B13b m13b d13b] 29))
   have bO:=hJ (show Below x39.heap.size x39 x48 by rw [←bN]; exact ((Below.refl _ _).alloc (Nat.le_refl _) _))
   have fC:=hJ (show BX 29 x48 x39.heap.size #[.bool s13,.slice A13 n13 c13,.bool t13,.slice B13 m13 d13,.bool s13b,.slice A13b n13b c13b,.bool t13b,.slice B13b m13b d13b] by rw [←bN]; exact (BX.at rfl))
   have aA:=hJ (bt (bt cF.out bM.out) bO.out)
   have aJ:=hJ (OwnR.new aK.out aA.out)
   have aD:=hJ (bt (bt (bt aH.out cF.out) bM.out) bO.out)
   go_wp2_with (at_builtin; refine wpList_append_okv noU rfl _ _ 52 rfl w.heap.size 29 i29 _ 8 128 Tryz.underlying52 aB.out.1 aB.out.2.1 aB.out.2.2.1 aB.out.2.2.2 rfl rfl (by decide) (.slice (some ⟨gx,0,none⟩) 2 cpx) 2 [.bool sx0,.slice Ax0 nx0 cx0,.bool tx0,.slice Bx0 mx0 dx0,.bool sx0b,.slice Ax0b nx0b cx0b,.bool tx0b,.slice Bx0b mx0b dx0b,.bool sx1,.slice Ax1 nx1 cx1,.bool tx1,.slice Bx1 mx1 dx1,.bool sx1b,.slice Ax1b nx1b cx1b,.bool tx1b,.slice Bx1b mx1b dx1b] rfl aJ.out ⟨x39.heap.size,0,none⟩ 1 1 [.bool s13,.slice A13 n13 c13,.bool t13,.slice B13 m13 d13,.bool s13b,.slice A13b n13b c13b,.bool t13b,.slice B13b m13b d13b] rfl rfl (BX.news fC.out) (List.all_eq_true (p:=Value.oneCell')|>.1 rfl) rfl (by unfold maxLen; omega) (by omega) (aD.out).size (by decide) ?_; intro va wa hown hgrow; refine stop_here (fun q aF=>?_))
   clear bL eU eV eW eX eY eZ fA fB bN
   rw [aF.out]
   clear aF q
   have hown:OwnR noU wa w.heap.size 29 8 va 3 [.bool sx0,.slice Ax0 nx0 cx0,.bool tx0,.slice Bx0 mx0 dx0,.bool sx0b,.slice Ax0b nx0b cx0b,.bool tx0b,.slice Bx0b mx0b dx0b,.bool sx1,.slice Ax1 nx1 cx1,.bool tx1,.slice Bx1 mx1 dx1,.bool sx1b,.slice Ax1b nx1b cx1b,.bool tx1b,.slice Bx1b mx1b dx1b,.bool s13,.slice A13 n13 c13,.bool t13,.slice B13 m13 d13,.bool s13b,.slice A13b n13b c13b,.bool t13b,.slice B13b m13b d13b]:=hown
   obtain ⟨cG,cH,rfl,hg1,hg2,hcap,_⟩:=hown.row (by decide)
   obtain ⟨w49,rfl⟩:∃ W,W=wa:=⟨_,rfl⟩
   have fD:=hJ (show OwnR noU w49 w.heap.size 29 8 (.slice (some ⟨cG,0,none⟩) 3 cH) 3 [.bool sx0,.slice Ax0 nx0 cx0,.bool tx0,.slice Bx0 mx0 dx0,.bool sx0b,.slice Ax0b nx0b cx0b,.bool tx0b,.slice Bx0b mx0b dx0b,.bool sx1,.slice Ax1 nx1 cx1,.bool tx1,.slice Bx1 mx1 dx1,.bool sx1b,.slice Ax1b nx1b cx1b,.bool tx1b,.slice Bx1b mx1b dx1b,.bool s13,.slice A13 n13 c13,.bool t13,.slice B13 m13 d13,.bool s13b,.slice A13b n13b c13b,.bool t13b,.slice B13b m13b d13b] from hown)
   have fE:=hJ hg1
   have fF:=hJ hg2
   have aO:=hJ hgrow
   clear hown hg1 hg2 hgrow hcap
   have aN:=hJ (show Below w.heap.size w w49 from Grew.below aD.out aO.out aJ.out (Nat.le_refl _) (aD.out).size)
   have fG:=hJ fF.out
   have aU:=hJ (PF.new aL.out aA.out)
   have aV:=hJ (show PF w49 sx0 Ax0 nx0 cx0 tx0 Bx0 mx0 dx0 (mkP x0 d0) (mkQ x0 d0) from PF.grow aU.out aO.out (fun _=>rfl))
   have aW:=hJ (PF.new aM.out aA.out)
   have aX:=hJ (show PF w49 sx0b Ax0b nx0b cx0b tx0b Bx0b mx0b dx0b (mkP y0 d0) (mkQ y0 d0) from PF.grow aW.out aO.out (fun _=>rfl))
   have bP:=hJ (PF.new aR.out aA.out)
   have bQ:=hJ (show PF w49 sx1 Ax1 nx1 cx1 tx1 Bx1 mx1 dx1 (mkP x1 d1) (mkQ x1 d1) from PF.grow bP.out aO.out (fun _=>rfl))
   have bR:=hJ (PF.new aS.out aA.out)
   have bS:=hJ (show PF w49 sx1b Ax1b nx1b cx1b tx1b Bx1b mx1b dx1b (mkP y1 d1) (mkQ y1 d1) from PF.grow bR.out aO.out (fun _=>rfl))
   have aG:=hJ (bt bM.out bO.out)
   have fH:=hJ (PF.new eR.out aG.out)
   have fI:=hJ (show PF w49 s13 A13 n13 c13 t13 B13 m13 d13 (mkP x2 d2) (mkQ x2 d2) from PF.grow fH.out aO.out (fun _=>rfl))
   have fJ:=hJ (PF.new eS.out aG.out)
   have fK:=hJ (show PF w49 s13b A13b n13b c13b t13b B13b m13b d13b (mkP y2 d2) (mkQ y2 d2) from PF.grow fJ.out aO.out (fun _=>rfl))
   go_wp2_with fail
   go_roundw
   case rel=>exact ⟨3,by go_num,aN.out,.inr (.inr (.inr (.inl ⟨rfl,cG,cH,sx0,Ax0,nx0,cx0,tx0,Bx0,mx0,dx0,sx0b,Ax0b,nx0b,cx0b,tx0b,Bx0b,mx0b,dx0b,sx1,Ax1,nx1,cx1,tx1,Bx1,mx1,dx1,sx1b,Ax1b,nx1b,cx1b,tx1b,Bx1b,mx1b,dx1b,s13,A13,n13,c13,t13,B13,m13,d13,s13b,A13b,n13b,c13b,t13b,B13b,m13b,d13b,rfl,fD,fE,fG,hJ aV.out,hJ aX.out,hJ bQ.out,hJ bS.out,hJ fI.out,hJ fK.out⟩)))⟩
   case measure=>simp [intOf] <;> omega
  ·(try rw [show ((3:Nat):Int)=3 from rfl])
   have aC:=hJ (OwnR.new aY.out aH.out)
   have fL:=aC.out.at 9 rfl
   have fM:=aC.out.at 10 rfl
   have fN:=aC.out.at 11 rfl
   go_wp2_with fail
   clear fL fM fN
   refine (own6_any x3 y3 d3 wl1 cO.out).mono ?_
   rintro e w54 ⟨s14,A14,n14,c14,t14,B14,m14,d14,s14b,A14b,n14b,c14b,t14b,B14b,m14b,d14b,rfl,hr14,hs14,hb⟩
   have cI:=hJ hb
   have fO:=hJ hr14
   have fP:=hJ hs14
   clear hb hr14 hs14
   obtain ⟨x55,bT⟩:=nmz (w54.alloc (.cells #[.bool s14,.slice A14 n14 c14,.bool t14,.slice B14 m14 d14,.bool s14b,.slice A14b n14b c14b,.bool t14b,.slice B14b m14b d14b] 29))
   have bU:=hJ (show Below w54.heap.size w54 x55 by rw [←bT]; exact ((Below.refl _ _).alloc (Nat.le_refl _) _))
   have fQ:=hJ (show BX 29 x55 w54.heap.size #[.bool s14,.slice A14 n14 c14,.bool t14,.slice B14 m14 d14,.bool s14b,.slice A14b n14b c14b,.bool t14b,.slice B14b m14b d14b] by rw [←bT]; exact (BX.at rfl))
   obtain ⟨fR,fS,fT,fU,fV,fW,fX,fY⟩:=fQ.out.q8 0 1 2 3 4 5 6 7
   obtain ⟨x64,bV⟩:=nmz (x55.alloc (.cells #[.bool s14,.slice A14 n14 c14,.bool t14,.slice B14 m14 d14,.bool s14b,.slice A14b n14b c14b,.bool t14b,.slice B14b m14b d14b] 29))
   have bW:=hJ (show Below x55.heap.size x55 x64 by rw [←bV]; exact ((Below.refl _ _).alloc (Nat.le_refl _) _))
   have fZ:=hJ (show BX 29 x64 x55.heap.size #[.bool s14,.slice A14 n14 c14,.bool t14,.slice B14 m14 d14,.bool s14b,.slice A14b n14b c14b,.bool t14b,.slice B14b m14b d14b] by rw [←bV]; exact (BX.at rfl))
   have aA:=hJ (bt (bt cI.out bU.out) bW.out)
   have aJ:=hJ (OwnR.new aK.out aA.out)
   have aD:=hJ (bt (bt (bt aH.out cI.out) bU.out) bW.out)
   go_wp2_with (at_builtin; refine wpList_append_okv noU rfl _ _ 52 rfl w.heap.size 29 i29 _ 8 128 Tryz.underlying52 aB.out.1 aB.out.2.1 aB.out.2.2.1 aB.out.2.2.2 rfl rfl (by decide) (.slice (some ⟨gx,0,none⟩) 3 cpx) 3 [.bool sx0,.slice Ax0 nx0 cx0,.bool tx0,.slice Bx0 mx0 dx0,.bool sx0b,.slice Ax0b nx0b cx0b,.bool tx0b,.slice Bx0b mx0b dx0b,.bool sx1,.slice Ax1 nx1 cx1,.bool tx1,.slice Bx1 mx1 dx1,.bool sx1b,.slice Ax1b nx1b cx1b,.bool tx1b,.slice Bx1b mx1b dx1b,.bool sx2,.slice Ax2 nx2 cx2,.bool tx2,.slice Bx2 mx2 dx2,.bool sx2b,.slice Ax2b nx2b cx2b,.bool tx2b,.slice Bx2b mx2b dx2b] rfl aJ.out ⟨x55.heap.size,0,none⟩ 1 1 [.bool s14,.slice A14 n14 c14,.bool t14,.slice B14 m14 d14,.bool s14b,.slice A14b n14b c14b,.bool t14b,.slice B14b m14b d14b] rfl rfl (BX.news fZ.out) (List.all_eq_true (p:=Value.oneCell')|>.1 rfl) rfl (by unfold maxLen; omega) (by omega) (aD.out).size (by decide) ?_; intro va wa hown hgrow; refine stop_here (fun q aF=>?_))
   clear bT fR fS fT fU fV fW fX fY bV
   rw [aF.out]
   clear aF q
   have hown:OwnR noU wa w.heap.size 29 8 va 4 [.bool sx0,.slice Ax0 nx0 cx0,.bool tx0,.slice Bx0 mx0 dx0,.bool sx0b,.slice Ax0b nx0b cx0b,.bool tx0b,.slice Bx0b mx0b dx0b,.bool sx1,.slice Ax1 nx1 cx1,.bool tx1,.slice Bx1 mx1 dx1,.bool sx1b,.slice Ax1b nx1b cx1b,.bool tx1b,.slice Bx1b mx1b dx1b,.bool sx2,.slice Ax2 nx2 cx2,.bool tx2,.slice Bx2 mx2 dx2,.bool sx2b,.slice Ax2b nx2b cx2b,.bool tx2b,.slice Bx2b mx2b dx2b,.bool s14,.slice A14 n14 c14,.bool t14,.slice B14 m14 d14,.bool s14b,.slice A14b n14b c14b,.bool t14b,.slice B14b m14b d14b]:=hown
   obtain ⟨cJ,cK,rfl,hg1,hg2,hcap,_⟩:=hown.row (by decide)
   obtain ⟨w65,rfl⟩:∃ W,W=wa:=⟨_,rfl⟩
   have gA:=hJ (show OwnR noU w65 w.heap.size 29 8 (.slice (some ⟨cJ,0,none⟩) 4 cK) 4 [.bool sx0,.slice Ax0 nx0 cx0,.bool tx0,.slice Bx0 mx0 dx0,.bool sx0b,.slice Ax0b nx0b cx0b,.bool tx0b,.slice Bx0b mx0b dx0b,.bool sx1,.slice Ax1 nx1 cx1,.bool tx1,.slice Bx1 mx1 dx1,.bool sx1b,.slice Ax1b nx1b cx1b,.bool tx1b,.slice Bx1b mx1b dx1b,.bool sx2,.slice Ax2 nx2 cx2,.bool tx2,.slice Bx2 mx2 dx2,.bool sx2b,.slice Ax2b nx2b cx2b,.bool tx2b,.slice Bx2b mx2b dx2b,.bool s14,.slice A14 n14 c14,.bool t14,.slice B14 m14 d14,.bool s14b,.slice A14b n14b c14b,.bool t14b,.slice B14b m14b d14b] from hown)
   have gB:=hJ hg1
   have gC:=hJ hg2
   have aI:=hJ hgrow
   clear hown hg1 hg2 hgrow hcap
   have aN:=hJ (show Below w.heap.size w w65 from Grew.below aD.out aI.out aJ.out (Nat.le_refl _) (aD.out).size)
   have gD:=hJ gC.out
   have aU:=hJ (PF.new aL.out aA.out)
   have aV:=hJ (show PF w65 sx0 Ax0 nx0 cx0 tx0 Bx0 mx0 dx0 (mkP x0 d0) (mkQ x0 d0) from PF.grow aU.out aI.out (fun _=>rfl))
   have aW:=hJ (PF.new aM.out aA.out)
   have aX:=hJ (show PF w65 sx0b Ax0b nx0b cx0b tx0b Bx0b mx0b dx0b (mkP y0 d0) (mkQ y0 d0) from PF.grow aW.out aI.out (fun _=>rfl))
   have bP:=hJ (PF.new aR.out aA.out)
   have bQ:=hJ (show PF w65 sx1 Ax1 nx1 cx1 tx1 Bx1 mx1 dx1 (mkP x1 d1) (mkQ x1 d1) from PF.grow bP.out aI.out (fun _=>rfl))
   have bR:=hJ (PF.new aS.out aA.out)
   have bS:=hJ (show PF w65 sx1b Ax1b nx1b cx1b tx1b Bx1b mx1b dx1b (mkP y1 d1) (mkQ y1 d1) from PF.grow bR.out aI.out (fun _=>rfl))
   have gE:=hJ (PF.new bB.out aA.out)
   have gF:=hJ (show PF w65 sx2 Ax2 nx2 cx2 tx2 Bx2 mx2 dx2 (mkP x2 d2) (mkQ x2 d2) from PF.grow gE.out aI.out (fun _=>rfl))
   have gG:=hJ (PF.new bC.out aA.out)
   have gH:=hJ (show PF w65 sx2b Ax2b nx2b cx2b tx2b Bx2b mx2b dx2b (mkP y2 d2) (mkQ y2 d2) from PF.grow gG.out aI.out (fun _=>rfl))
   have aG:=hJ (bt bU.out bW.out)
   have gI:=hJ (PF.new fO.out aG.out)
   have gJ:=hJ (show PF w65 s14 A14 n14 c14 t14 B14 m14 d14 (mkP x3 d3) (mkQ x3 d3) from PF.grow gI.out aI.out (fun _=>rfl))
   have gK:=hJ (PF.new fP.out aG.out)
   have gL:=hJ (show PF w65 s14b A14b n14b c14b t14b B14b m14b d14b (mkP y3 d3) (mkQ y3 d3) from PF.grow gK.out aI.out (fun _=>rfl))
   go_wp2_with fail
   go_roundw
   case rel=>exact ⟨4,by go_num,aN.out,.inr (.inr (.inr (.inr (⟨rfl,cJ,cK,sx0,Ax0,nx0,cx0,tx0,Bx0,mx0,dx0,sx0b,Ax0b,nx0b,cx0b,tx0b,Bx0b,mx0b,dx0b,sx1,Ax1,nx1,cx1,tx1,Bx1,mx1,dx1,sx1b,Ax1b,nx1b,cx1b,tx1b,Bx1b,mx1b,dx1b,sx2,Ax2,nx2,cx2,tx2,Bx2,mx2,dx2,sx2b,Ax2b,nx2b,cx2b,tx2b,Bx2b,mx2b,dx2b,s14,A14,n14,c14,t14,B14,m14,d14,s14b,A14b,n14b,c14b,t14b,B14b,m14b,d14b,rfl,gA,gB,gD,hJ aV.out,hJ aX.out,hJ bQ.out,hJ bS.out,hJ gF.out,hJ gH.out,hJ gJ.out,hJ gL.out⟩))))⟩
   case measure=>simp [intOf] <;> omega
  ·(try rw [show ((4:Nat):Int)=4 from rfl])
   go_wp2
   go_ret2
   exact ⟨gx,cpx,sx0,Ax0,nx0,cx0,tx0,Bx0,mx0,dx0,sx0b,Ax0b,nx0b,cx0b,tx0b,Bx0b,mx0b,dx0b,sx1,Ax1,nx1,cx1,tx1,Bx1,mx1,dx1,sx1b,Ax1b,nx1b,cx1b,tx1b,Bx1b,mx1b,dx1b,sx2,Ax2,nx2,cx2,tx2,Bx2,mx2,dx2,sx2b,Ax2b,nx2b,cx2b,tx2b,Bx2b,mx2b,dx2b,sx3,Ax3,nx3,cx3,tx3,Bx3,mx3,dx3,sx3b,Ax3b,nx3b,cx3b,tx3b,Bx3b,mx3b,dx3b,rfl,own_bs6 aK.out (Nat.le_refl _),aZ.out,aL.out,aM.out,aR.out,aS.out,bB.out,bC.out,cP.out,cQ.out,aH.out⟩
end Go.Proofs.YtbgfmegepekapaaGreat
