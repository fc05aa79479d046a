/- The walk of the law ExactAreas. -/
import Derived.Test.YtbgfmegepekapaaGreatAX
import Derived.Test.YtbgfmegepekapaaGreatRI
import Derived.Test.YtbgfmegepekapaaGreatEQ
import Derived.Laws.BytesArg
import Derived.OpenShut
namespace Go.Proofs.YtbgfmegepekapaaGreat
set_option maxRecDepth 100000
set_option maxHeartbeats 12800000
open Go.RowKit
attribute [local go_sem ↓] Go.wp_at_zero Go.wp_at_succ
set_option linter.unusedVariables false
set_option linter.unusedSimpArgs false
theorem noU_noI {cs:Array Value} (h:cs.toList.all noU=true):noI .u32 cs=true:=by
 unfold noI
 rw [List.all_eq_true] at h ⊢
 intro x hx
 have h2:=h x hx
 cases x with
 | int k v=>cases k <;> first | rfl | exact absurd h2 Bool.false_ne_true
 | _=>rfl
theorem pf_stoR {w:World} {s s':Bool} {A A':Option Addr} {n c n' c':Nat} {p q:Int} {base:Nat} {e:TypeId} {size m g cap:Nat} {xs:List Value} (h:PF w s A n c s' A' n' c' p q) (ho:OwnR noU w base e size (.slice (some ⟨g,0,none⟩) m cap) m xs) (o:Nat) (vs:List Value):PF (sto w g o vs) s A n c s' A' n' c' p q:=by
 obtain ⟨cur,hg,_,_,_,_,_,ha⟩:=ho.blk
 exact PF.sto h hg (noU_noI ha) o vs
theorem pfv_stoR {w:World} {a b c d:Value} {p q:Int} {base:Nat} {e:TypeId} {size m g cap:Nat} {xs:List Value} (h:PFv w a b c d p q) (ho:OwnR noU w base e size (.slice (some ⟨g,0,none⟩) m cap) m xs) (o:Nat) (vs:List Value):PFv (sto w g o vs) a b c d p q:=by
 obtain ⟨s,A,n,c',t,B,k,d',e0,e1,e2,e3,hp⟩:=h
 exact ⟨s,A,n,c',t,B,k,d',e0,e1,e2,e3,pf_stoR hp ho o vs⟩
theorem lfg_stoR {w:World} {PX QX PY QY:Nat→Int} {U:Nat→Nat→Value} {base:Nat} {e:TypeId} {size m g cap:Nat} {xs:List Value} (h:LFg w PX QX PY QY U) (ho:OwnR noU w base e size (.slice (some ⟨g,0,none⟩) m cap) m xs) (o:Nat) (vs:List Value):LFg (sto w g o vs) PX QX PY QY U:=fun j hj=>⟨pfv_stoR (h j hj).1 ho o vs,pfv_stoR (h j hj).2 ho o vs⟩
/-- The row with one number of one point changed. -/
theorem row_setX {w:World} {base g cap:Nat} {e:TypeId} {PX QX PY QY:Nat→Int} {U:Nat→Nat→Value} (ho:OwnR noU w base e 8 (.slice (some ⟨g,0,none⟩) 4 cap) 4 (rowQ U)) (hl:LFg w PX QX PY QY U) (hf:∀ j,j < 4→Fr (PX j) (QX j)∧Fr (PY j) (QY j)) {i:Nat} (hi:i < 4) {s t:Bool} {A B:Option Addr} {n c m d:Nat} {p q:Int} (hp:PF w s A n c t B m d p q) (hpf:Fr p q) :
  ∃ U' PX' QX' PY' QY',OwnR noU (sto w g (i*8) [.bool s,.slice A n c,.bool t,.slice B m d]) base e 8 (.slice (some ⟨g,0,none⟩) 4 cap) 4 (rowQ U')∧LFg (sto w g (i*8) [.bool s,.slice A n c,.bool t,.slice B m d]) PX' QX' PY' QY' U'∧∀ j,j < 4→Fr (PX' j) (QX' j)∧Fr (PY' j) (QY' j) :=
 ⟨upU U i 0 (.bool s) (.slice A n c) (.bool t) (.slice B m d),upN PX i p,upN QX i q,PY,QY,by rw [←rowQ_setX U hi]; exact OwnR.sto ho _ _ rfl,lfg_setX (lfg_stoR hl ho _ _) i ⟨s,A,n,c,t,B,m,d,rfl,rfl,rfl,rfl,pf_stoR hp ho _ _⟩,fr_setX hf i hpf⟩
/-- The row with one number of one point changed. -/
theorem row_setY {w:World} {base g cap:Nat} {e:TypeId} {PX QX PY QY:Nat→Int} {U:Nat→Nat→Value} (ho:OwnR noU w base e 8 (.slice (some ⟨g,0,none⟩) 4 cap) 4 (rowQ U)) (hl:LFg w PX QX PY QY U) (hf:∀ j,j < 4→Fr (PX j) (QX j)∧Fr (PY j) (QY j)) {i:Nat} (hi:i < 4) {s t:Bool} {A B:Option Addr} {n c m d:Nat} {p q:Int} (hp:PF w s A n c t B m d p q) (hpf:Fr p q) :
  ∃ U' PX' QX' PY' QY',OwnR noU (sto w g (i*8+4) [.bool s,.slice A n c,.bool t,.slice B m d]) base e 8 (.slice (some ⟨g,0,none⟩) 4 cap) 4 (rowQ U')∧LFg (sto w g (i*8+4) [.bool s,.slice A n c,.bool t,.slice B m d]) PX' QX' PY' QY' U'∧∀ j,j < 4→Fr (PX' j) (QX' j)∧Fr (PY' j) (QY' j) :=
 ⟨upU U i 4 (.bool s) (.slice A n c) (.bool t) (.slice B m d),PX,QX,upN PY i p,upN QY i q,by rw [←rowQ_setY U hi]; exact OwnR.sto ho _ _ rfl,lfg_setY (lfg_stoR hl ho _ _) i ⟨s,A,n,c,t,B,m,d,rfl,rfl,rfl,rfl,pf_stoR hp ho _ _⟩,fr_setY hf i hpf⟩
theorem exactAreas_walk (A:Option Addr) (ln c:Nat) (l:List Int) (gr wh:Int) (w:World) (hg:Got w (.slice A ln c) l) (hgr:(Lit.int .i64 gr).wf=true) (hwh:(Lit.int .i64 wh).wf=true) :
  Calls Tryz.prog 4 #[.slice A ln c,.int .i64 gr,.int .i64 wh] w fun e w'=>e=.returned (.bool true)∧Below w.heap.size w w':=by
 have HG:=hJ hg
 have cX:=hJ hgr
 have bJ:=hJ hwh
 clear hg hgr hwh
 obtain ⟨ka,hka⟩:=nmz (aroundZ gr 14)
 have cY:=hJ (show 0≤ka∧ka < 14 by rw [←hka]; exact aroundZ_in gr (by decide))
 have cZ:=hJ hka
 clear hka
 go_enter Tryz.func4,Tryz.ntmps4
 go_wp2_with fail
 refine (points2_any A ln c l w HG.out).mono ?_
 rintro e w1 ⟨g,cap,xs,ys,ds,rfl,ho,hn,hb⟩
 have bD:=hJ hb
 have dA:=hJ ho
 clear hb ho
 have HN:=hJ hn.1
 clear hn
 have eJ:=hJ (OwnR.lt dA.out)
 go_wp2_with fail
 refine (four2_any xs ys ds g cap w.heap.size w1 dA.out eJ.out HN.out).mono ?_
 rintro e w2 ⟨gq,cpq,U,rfl,ho,hl,hf,hb⟩
 have dB:=hJ hb
 have aX:=hJ ho
 have eK:=hJ hf
 clear hb ho hf
 clear hl
 have bZ:=hJ (OwnR.lt aX.out)
 have aU:=hJ (OwnR.ge aX.out)
 go_wp2_with fail
 refine (from_any 3 w2 (by decide)).mono ?_
 rintro e w3 ⟨s11,A11,n11,c11,rfl,hr11,hb⟩
 have cA:=hJ hb
 have eL:=hJ hr11
 clear hb hr11
 obtain ⟨x4,cB⟩:=nmz (w3.alloc (.cells #[.bool s11,.slice A11 n11 c11] 25))
 have dD:=hJ (show Below w3.heap.size w3 x4 by rw [←cB]; exact ((Below.refl _ _).alloc (Nat.le_refl _) _))
 have eM:=hJ (show BX 25 x4 w3.heap.size #[.bool s11,.slice A11 n11 c11] by rw [←cB]; exact (BX.at rfl))
 have eN:=hJ (show w3.heap.size≤w3.heap.size by omega)
 have eO:=hJ (bt (bt bD.out dB.out) cA.out)
 have eP:=hJ (bt dB.out cA.out)
 have eQ:=hJ (PIo.new eL.out dD.out)
 go_wp2_with fail
 clear cB
 go_loopw [10] (fun tv wr=>∃ (i:Nat) (aL:Bool) (aM:Option Addr) (aN:Nat) (aO:Nat) (z5:Int),i≤13∧tv=.int .i64 (i:Int)∧BX 25 wr w3.heap.size #[.bool aL,.slice aM aN aO]∧PI wr aL aM aN aO z5∧Hid (z5=sq3 i∧(i:Int)≤ka)∧Below w3.heap.size w3 wr) (fun tv _=>13 - (intOf tv).toNat)
 case atStart=>exact ⟨0,s11,A11,n11,c11,3,by omega,rfl,eM.out,eQ.out,hJ (⟨rfl,cY.out.1⟩),dD.out⟩
 case round =>
  obtain ⟨i5,aL,aM,aN,aO,z5,hi,rfl,hz5_0,hz5_1,cC,hbel⟩:=hrel
  obtain ⟨wl5,rfl⟩:∃ W:World,W=wr:=⟨_,rfl⟩
  have bK:=hJ hbel
  have bE:=hJ hz5_0
  have aY:=hJ hz5_1
  clear hbel hz5_0 hz5_1
  have bL:=hJ (bt eO.out bK.out)
  have dE:=hJ (bt eP.out bK.out)
  have bM:=hJ (bt cA.out bK.out)
  rcases (show (i5:Int) < ka∨ka≤(i5:Int) by omega) with hlt | hge
  ·have hk14:ka < 14:=cY.out.2
   have h0i:(0:Int)≤(i5:Int):=by omega
   obtain ⟨z2,hz2⟩:∃ x,sq3 (i5+1)=x:=⟨_,rfl⟩
   have eR:=hJ hz2.symm
   have dF:=hJ (show outV (z5*z5)=z2∧outC (z5*z5)=0 from by rw [cC.out.1,sq3_succ,←hz2]; exact ⟨if_pos (sq3_lim (by omega)),if_pos (sq3_lim (by omega))⟩)
   clear hz2
   have aZ:=hJ (show z5.natAbs < lim by rw [cC.out.1]; exact sq3_lim hi)
   go_wp2_with fail
   refine (aroundz_any gr 14 wl5 (by decide) (by decide) cX.out).mono ?_
   rw [cZ.out]
   rintro e w6 ⟨rfl,rfl⟩
   obtain ⟨eS,eT⟩:=bE.out.c2 0 1 rfl rfl
   obtain ⟨eU,eV⟩:=bE.out.c2 0 1 rfl rfl
   go_wp2_with fail
   clear eS eT eU eV
   refine (pmul_any z5 z5 aL aL aM aM aN aO aN aO wl5 aY.out aY.out (Nat.le_trans (plim aY.out aZ.out) (by decide)) (Nat.le_trans (plim aY.out aZ.out) (by decide))).mono ?_
   rw [dF.out.1,dF.out.2]
   rintro e w11 ⟨s12,A12,n12,c12,rfl,hr12,hb⟩
   have dG:=hJ hb
   have eW:=hJ hr12
   clear hb hr12
   obtain ⟨x12,cD⟩:=nmz (w11.alloc (.cells #[.bool s12,.slice A12 n12 c12] 25))
   have cE:=hJ (show Below w11.heap.size w11 x12 by rw [←cD]; exact ((Below.refl _ _).alloc (Nat.le_refl _) _))
   have eX:=hJ (show BX 25 x12 w11.heap.size #[.bool s12,.slice A12 n12 c12] by rw [←cD]; exact (BX.at rfl))
   obtain ⟨eY,eZ⟩:=eX.out.c2 0 1 rfl rfl
   have fA:=hJ (bt dG.out cE.out)
   have bA:=hJ (BX.new bE.out fA.out)
   have fB:=bA.out.frozen 0
   have fC:=bA.out.cell 0 rfl
   have fD:=bA.out.frozen 1
   have fE:=bA.out.cell 1 rfl
   obtain ⟨x15,dH⟩:=nmz (World.setCell (World.setCell x12 ⟨w3.heap.size,0,none⟩ (.bool s12)) ⟨w3.heap.size,1,none⟩ (.slice A12 n12 c12))
   have cF:=hJ (show sto x12 w3.heap.size 0 [.bool s12,.slice A12 n12 c12]=x15 from dH)
   have fF:=hJ (show BX 25 x15 w3.heap.size #[.bool s12,.slice A12 n12 c12] by rw [←cF.out]; exact BX.put bA.out _ _)
   have fG:=hJ (PIo.new eW.out cE.out)
   have fH:=hJ (show PI x15 s12 A12 n12 c12 z2 by rw [←cF.out]; exact PIo.sto fG.out bA.out rfl _ _)
   have fI:=hJ (show Below w3.heap.size w3 x15 by rw [←cF.out]; exact below_sto (bt (bt bK.out dG.out) cE.out) eN.out _ _)
   go_wp2_with fail
   clear cD eY eZ fB fC fD fE dH
   go_roundw
   case rel=>exact ⟨i5+1,s12,A12,n12,c12,z2,by omega,by go_num,fF.out,fH.out,hJ (⟨eR.out,by omega⟩),fI.out⟩
   case measure=>simp [intOf] <;> omega
  ·have hnl:¬ (i5:Int) < ka:=by omega
   have aZ:=hJ (show z5.natAbs < lim by rw [cC.out.1]; exact sq3_lim hi)
   go_wp2_with fail
   refine (aroundz_any gr 14 wl5 (by decide) (by decide) cX.out).mono ?_
   rw [cZ.out]
   rintro e w16 ⟨rfl,rfl⟩
   obtain ⟨bp,hbp⟩:∃ x,mkP z5 7=x:=⟨_,rfl⟩
   obtain ⟨bq,hbq⟩:∃ x,mkQ z5 7=x:=⟨_,rfl⟩
   have dI:=hJ (show mkC 7=0 by unfold mkC; rfl)
   have bN:=hJ (show Fr bp bq by rw [←hbp,←hbq]; exact fr_mk aZ.out (i64_lim (x:=7) (by decide)))
   have dJ:=hJ hbp
   have dK:=hJ hbq
   clear hbp hbq
   have aH:Hid (∀ w',Below wl5.heap.size wl5 w'→(fun w':World=>w'.cell? ⟨w3.heap.size,0,none⟩=some (.bool aL)∧w'.cell? ⟨w3.heap.size,1,none⟩=some (.slice aM aN aO)∧Below wl5.heap.size wl5 w') w'):=hJ (fun w' hb=>⟨(BX.new bE.out hb).cell 0 rfl,(BX.new bE.out hb).cell 1 rfl,hb⟩)
   go_wp2_with fail
   clear hge hnl hi
   obtain ⟨v17,hv17⟩:=nmz (World.drew wl5)
   have cG:=hJ (show Below wl5.heap.size wl5 v17 by rw [←hv17]; exact (Below.refl _ _).drew)
   refine whd aH hv17 (fun hHeld=>?_)
   clear hv17
   refine tq 0 ?_
   try simp only [PT]
   refine wpAnyH_name (fun F hF a0 ha0 L0 hL0=>?_)
   have bO:∀ (s13:Bool) (A13:Option Addr) (n13:Nat) (c13:Nat) (s14:Bool) (A14:Option Addr) (n14:Nat) (c14:Nat) (t14:Bool) (B14:Option Addr) (m14:Nat) (d14:Nat) (aA:Nat) (v:World),Hid (Below wl5.heap.size wl5 v)→Hid (PI v s13 A13 n13 c13 7)→Hid (PF v s14 A14 n14 c14 t14 B14 m14 d14 bp bq)→Hid (BX 27 v aA #[.bool false,.slice none 0 0,.bool false,.slice none 0 0])→Hid (wl5.heap.size≤aA)→F 2 (Array.setIfInBounds (Array.setIfInBounds (Array.setIfInBounds (Array.setIfInBounds (Array.setIfInBounds (Array.setIfInBounds L0 1 true) 2 true) 6 true) 3 true) 4 true) 5 true) (Act.put (Act.put (Act.put (Act.put (Act.put (Act.put a0 (some 58) (.agg #[.bool s13,.slice A13 n13 c13])) (some 59) (.tuple #[.agg #[.bool s14,.slice A14 n14 c14,.bool t14,.slice B14 m14 d14],.int .i64 0])) (some 13) (.pointer (some ⟨aA,0,none⟩))) (some 56) (.tuple #[.agg #[.bool s14,.slice A14 n14 c14,.bool t14,.slice B14 m14 d14],.int .i64 0])) (some 60) (.agg #[.bool s14,.slice A14 n14 c14,.bool t14,.slice B14 m14 d14])) (some 61) (.int .i64 0)) v:=by
    intro s13 A13 n13 c13 s14 A14 n14 c14 t14 B14 m14 d14 aA v aC aI cH aG aR
    subst hF ha0 hL0
    simp only [PT] at  ⊢
    have hHeld:=aH.out _ aC.out
    refine ryy [7] ?_
    refine .cons rfl (fun K hK=>?_) .nil
    have z18_0:=aG.out.cell 0 rfl
    have y18_0:=aG.out.frozen 0
    have z18_1:=aG.out.cell 1 rfl
    have y18_1:=aG.out.frozen 1
    have z18_2:=aG.out.cell 2 rfl
    have y18_2:=aG.out.frozen 2
    have z18_3:=aG.out.cell 3 rfl
    have y18_3:=aG.out.frozen 3
    have z18:=aG.out.lt
    go_simp
    obtain ⟨v18,hV⟩:=nmz (World.setCell (World.setCell (World.setCell (World.setCell v ⟨aA,0,none⟩ (.bool s14)) ⟨aA,1,none⟩ (.slice A14 n14 c14)) ⟨aA,2,none⟩ (.bool t14)) ⟨aA,3,none⟩ (.slice B14 m14 d14))
    rw [hV]
    have cI:=hJ (show sto v aA 0 [.bool s14,.slice A14 n14 c14,.bool t14,.slice B14 m14 d14]=v18 from hV)
    clear hV z18 z18_0 y18_0 z18_1 y18_1 z18_2 y18_2 z18_3 y18_3
    have aS:=hJ (show Below wl5.heap.size wl5 v18 by rw [←cI.out]; exact below_sto aC.out aR.out _ _)
    have bP:=hJ (show PF v18 s14 A14 n14 c14 t14 B14 m14 d14 bp bq by rw [←cI.out]; exact PF.sto cH.out aG.out rfl _ _)
    have aT:=hJ (show BX 27 v18 aA #[.bool s14,.slice A14 n14 c14,.bool t14,.slice B14 m14 d14] by rw [←cI.out]; exact BX.put aG.out _ _)
    clear hHeld
    refine hK.out _ _ (aH.out _ aS.out) (fun hHeld=>?_)
    clear hK K
    refine tq 8 ?_
    try simp only [PT]
    refine wpAnyH_done (by kernel_rfl) ?_ _
    clear hHeld
    have bF:=hJ (bt bM.out aS.out)
    have fJ:=hJ (LF.new eK.out bF.out)
    obtain ⟨kw,hkw⟩:∃ j:Nat,aroundZ wh 4=(j:Int):=⟨(aroundZ wh 4).toNat,by have:=aroundZ_in wh (n:=4) (by decide); omega⟩
    have bB:=hJ (show kw < 4 by have:=aroundZ_in wh (n:=4) (by decide); omega)
    have bQ:=hJ hkw
    obtain ⟨q24,hq24⟩:=nmz (IntKind.i64.wrap (wh.tdiv 24))
    have dL:=hJ hq24
    have dM:=hJ (show (Lit.int .i64 q24).wf=true by rw [←hq24]; exact wf_wrap .i64 _)
    obtain ⟨kz,hkz⟩:∃ j:Nat,aroundZ q24 4=(j:Int):=⟨(aroundZ q24 4).toNat,by have:=aroundZ_in q24 (n:=4) (by decide); omega⟩
    have bC:=hJ (show kz < 4 by have:=aroundZ_in q24 (n:=4) (by decide); omega)
    have dN:=hJ hkz
    obtain ⟨PX0,QX0,PY0,QY0,hlg,hfr⟩:∃ PX QX PY QY,LFg v18 PX QX PY QY U∧(∀ j,j < 4→Fr (PX j) (QX j)∧Fr (PY j) (QY j)):=⟨_,_,_,_,lf_lfg fJ.out,lf_fr HN.out⟩
    have bR:=hJ hlg
    have bS:=hJ hfr
    clear hkw hq24 hkz hlg hfr
    obtain ⟨d4,hd4⟩:=nmz (IntKind.i64.wrap (wh.tdiv 4))
    obtain ⟨d8,hd8⟩:=nmz (IntKind.i64.wrap (wh.tdiv 8))
    rcases (show ((d4.tmod 2=0∧d8.tmod 3=0)∨(d4.tmod 2=0∧¬ d8.tmod 3=0))∨((¬ d4.tmod 2=0∧d8.tmod 3=0)∨(¬ d4.tmod 2=0∧¬ d8.tmod 3=0)) by by_cases h1:d4.tmod 2=0 <;> by_cases h2:d8.tmod 3=0 <;> simp [*]) with (⟨hx,hy⟩ | ⟨hx,hy⟩) | (⟨hx,hy⟩ | ⟨hx,hy⟩)
    ·have hc1:(d4.tmod 2 == 0)=true:=by simp [hx]
     have hc2:(d8.tmod 3 == 0)=true:=by simp [hy]
     clear hx hy
     go_wp2_with fail
     refine (aroundz_any wh 4 v18 (by decide) (by decide) bJ.out).mono ?_
     rw [bQ.out]
     rintro e w20 ⟨rfl,rfl⟩
     have aD:=hJ (rowQ_get U bB.out)
     have cJ:=hJ aD.out.1
     have cK:=hJ aD.out.2.1
     have cL:=hJ aD.out.2.2.1
     have cM:=hJ aD.out.2.2.2.1
     have fK:=hJ aD.out.2.2.2.2.1
     have fL:=hJ aD.out.2.2.2.2.2.1
     have fM:=hJ aD.out.2.2.2.2.2.2.1
     have fN:=hJ aD.out.2.2.2.2.2.2.2
     have hkw4:=bB.out
     have hkwp:(0:Int)≤(kw:Int):=by omega
     have hkwq:(kw:Int) < 4:=by omega
     clear hkw4
     obtain ⟨fO,fP,fQ,fR⟩:=aT.out.c4 0 1 2 3 rfl rfl rfl rfl
     have aB:=hJ (OwnR.new aX.out bF.out)
     have fS:=OwnR.frz aB.out (kw*8)
     have fT:=aB.out.at (kw*8) cJ.out
     have fU:=OwnR.frz aB.out (kw*8+1)
     have fV:=aB.out.at (kw*8+1) cK.out
     have fW:=OwnR.frz aB.out (kw*8+2)
     have fX:=aB.out.at (kw*8+2) cL.out
     have fY:=OwnR.frz aB.out (kw*8+3)
     have fZ:=aB.out.at (kw*8+3) cM.out
     obtain ⟨x25,dO⟩:=nmz (World.setCell (World.setCell (World.setCell (World.setCell v18 ⟨gq,kw*8,none⟩ (.bool s14)) ⟨gq,kw*8+1,none⟩ (.slice A14 n14 c14)) ⟨gq,kw*8+2,none⟩ (.bool t14)) ⟨gq,kw*8+3,none⟩ (.slice B14 m14 d14))
     have bG:=hJ (show sto v18 gq (kw*8) [.bool s14,.slice A14 n14 c14,.bool t14,.slice B14 m14 d14]=x25 from dO)
     have gA:=hJ (show PF x25 s14 A14 n14 c14 t14 B14 m14 d14 bp bq by rw [←bG.out]; exact pf_stoR bP.out aB.out _ _)
     obtain ⟨U1,PX1,QX1,PY1,QY1,ho,hlg,hfr⟩:∃ U' PX' QX' PY' QY',OwnR noU x25 w1.heap.size 29 8 (.slice (some ⟨gq,0,none⟩) 4 cpq) 4 (rowQ U')∧LFg x25 PX' QX' PY' QY' U'∧(∀ j,j < 4→Fr (PX' j) (QX' j)∧Fr (PY' j) (QY' j)):=by rw [←bG.out]; exact row_setX aB.out bR.out bS.out bB.out bP.out bN.out
     have gB:=hJ ho
     have gC:=hJ hlg
     have gD:=hJ hfr
     clear ho hlg hfr
     have aF:=hJ (rowQ_get U1 bC.out)
     have gE:=hJ aF.out.1
     have gF:=hJ aF.out.2.1
     have gG:=hJ aF.out.2.2.1
     have gH:=hJ aF.out.2.2.2.1
     have cN:=hJ aF.out.2.2.2.2.1
     have cO:=hJ aF.out.2.2.2.2.2.1
     have cP:=hJ aF.out.2.2.2.2.2.2.1
     have cQ:=hJ aF.out.2.2.2.2.2.2.2
     have hkz4:=bC.out
     have hkzp:(0:Int)≤(kz:Int):=by omega
     have hkzq:(kz:Int) < 4:=by omega
     clear hkz4
     have bH:=hJ (show BX 27 x25 aA #[.bool s14,.slice A14 n14 c14,.bool t14,.slice B14 m14 d14] by rw [←bG.out]; exact BX.far aT.out (show aA≠gq by have h1:=bZ.out; have h2:=aR.out; have h3:=(bM.out).size; omega) _ _)
     have dP:=hJ (show Below w1.heap.size w1 x25 by rw [←bG.out]; exact below_sto (bt dE.out aS.out) aU.out _ _)
     have dQ:Hid (∀ w',Below x25.heap.size x25 w'→(fun w':World=>w'.cell? ⟨aA,0,none⟩=some (.bool s14)∧w'.cell? ⟨aA,1,none⟩=some (.slice A14 n14 c14)∧w'.cell? ⟨aA,2,none⟩=some (.bool t14)∧w'.cell? ⟨aA,3,none⟩=some (.slice B14 m14 d14)∧Below w1.heap.size w1 w') w'):=hJ (fun w' hb=>⟨(BX.new bH.out hb).cell 0 rfl,(BX.new bH.out hb).cell 1 rfl,(BX.new bH.out hb).cell 2 rfl,(BX.new bH.out hb).cell 3 rfl,(bt dP.out hb)⟩)
     go_wp2_with fail
     clear hkwp hkwq fO fP fQ fR fS fT fU fV fW fX fY fZ dO
     obtain ⟨v26,hv26⟩:=nmz (World.drew x25)
     have aV:=hJ (show Below x25.heap.size x25 v26 by rw [←hv26]; exact (Below.refl _ _).drew)
     refine whd dQ hv26 (fun hHeld=>?_)
     clear hv26
     refine tq 0 ?_
     refine tq 1 ?_
     try simp only [PT]
     refine tk 2 (.int .i64 q24) ?_ ?_
     ·intro w hSw
      (try dsimp only at hSw)
      go_simp
      first | rw [dL.out] | rfl
     refine tq 4 ?_
     try simp only [PT]
     refine ryy [3] ?_
     refine .cons rfl (fun K hK=>?_) .nil
     go_simp
     go_at_call 16
     refine (aroundz_any q24 4 v26 (by decide) (by decide) dM.out).mono ?_
     rw [dN.out]
     rintro e v27 ⟨rfl,rfl⟩
     go_wp2_with fail
     clear hHeld
     refine hK.out _ _ (dQ.out _ aV.out) (fun hHeld=>?_)
     clear hK K
     refine tq 5 ?_
     refine tq 6 ?_
     try simp only [PT]
     refine ryy [7] ?_
     refine .cons rfl (fun K hK=>?_) .nil
     have aJ:=hJ (OwnR.new gB.out aV.out)
     have z28_0:=aJ.out.at (kz*8+4) cN.out
     have y28_0:=OwnR.frz aJ.out (kz*8+4)
     have z28_1:=aJ.out.at (kz*8+4+1) cO.out
     have y28_1:=OwnR.frz aJ.out (kz*8+4+1)
     have z28_2:=aJ.out.at (kz*8+4+2) cP.out
     have y28_2:=OwnR.frz aJ.out (kz*8+4+2)
     have z28_3:=aJ.out.at (kz*8+4+3) cQ.out
     have y28_3:=OwnR.frz aJ.out (kz*8+4+3)
     go_simp
     obtain ⟨v28,hV⟩:=nmz (World.setCell (World.setCell (World.setCell (World.setCell v26 ⟨gq,kz*8+4,none⟩ (.bool s14)) ⟨gq,kz*8+4+1,none⟩ (.slice A14 n14 c14)) ⟨gq,kz*8+4+2,none⟩ (.bool t14)) ⟨gq,kz*8+4+3,none⟩ (.slice B14 m14 d14))
     rw [hV]
     have bT:=hJ (show sto v26 gq (kz*8+4) [.bool s14,.slice A14 n14 c14,.bool t14,.slice B14 m14 d14]=v28 from hV)
     clear hV z28_0 y28_0 z28_1 y28_1 z28_2 y28_2 z28_3 y28_3
     have gI:=hJ (show Below w1.heap.size w1 v28 by rw [←bT.out]; exact below_sto (bt dP.out aV.out) aU.out _ _)
     have bU:=hJ (show BX 27 v28 aA #[.bool s14,.slice A14 n14 c14,.bool t14,.slice B14 m14 d14] by rw [←bT.out]; exact BX.far (BX.new bH.out aV.out) (show aA≠gq by have h1:=bZ.out; have h2:=aR.out; have h3:=(bM.out).size; omega) _ _)
     clear hHeld
     refine hK.out _ _ (⟨bU.out.cell 0 rfl,bU.out.cell 1 rfl,bU.out.cell 2 rfl,bU.out.cell 3 rfl,gI.out⟩) (fun hHeld=>?_)
     clear hK K
     try simp only [PT]
     refine wpAnyH_done (by kernel_rfl) ?_ _
     clear hHeld
     have gJ:=hJ (LFg.new gC.out aV.out)
     have gK:=hJ (PF.new gA.out aV.out)
     obtain ⟨U2,PX2,QX2,PY2,QY2,ho,hlg,hfr⟩:∃ U' PX' QX' PY' QY',OwnR noU v28 w1.heap.size 29 8 (.slice (some ⟨gq,0,none⟩) 4 cpq) 4 (rowQ U')∧LFg v28 PX' QX' PY' QY' U'∧(∀ j,j < 4→Fr (PX' j) (QX' j)∧Fr (PY' j) (QY' j)):=by rw [←bT.out]; exact row_setY aJ.out gJ.out gD.out bC.out gK.out bN.out
     have gL:=hJ ho
     have gM:=hJ hlg
     have gN:=hJ hfr
     clear ho hlg hfr
     have cR:=hJ (show Below w.heap.size w x25 by rw [←bG.out]; exact below_sto (bt bL.out aS.out) (Nat.le_trans (bD.out).size aU.out) _ _)
     have gO:=hJ (show Below w.heap.size w v28 by rw [←bT.out]; exact below_sto (bt cR.out aV.out) (Nat.le_trans (bD.out).size aU.out) _ _)
     go_upto_region 19 with fail
     refine wp_mono (areas_t PX2 QX2 PY2 QY2 U2 w1.heap.size gq cpq w v28 gN gM gL (hJ gO.out) _ (by assumption)) (fun e a w h=>by cases e <;> exact h)
    ·have hc1:(d4.tmod 2 == 0)=true:=by simp [hx]
     have hc2:(d8.tmod 3 == 0)=false:=by simp [hy]
     clear hx hy
     go_wp2_with fail
     refine (aroundz_any wh 4 v18 (by decide) (by decide) bJ.out).mono ?_
     rw [bQ.out]
     rintro e w29 ⟨rfl,rfl⟩
     have aD:=hJ (rowQ_get U bB.out)
     have cJ:=hJ aD.out.1
     have cK:=hJ aD.out.2.1
     have cL:=hJ aD.out.2.2.1
     have cM:=hJ aD.out.2.2.2.1
     have fK:=hJ aD.out.2.2.2.2.1
     have fL:=hJ aD.out.2.2.2.2.2.1
     have fM:=hJ aD.out.2.2.2.2.2.2.1
     have fN:=hJ aD.out.2.2.2.2.2.2.2
     have hkw4:=bB.out
     have hkwp:(0:Int)≤(kw:Int):=by omega
     have hkwq:(kw:Int) < 4:=by omega
     clear hkw4
     obtain ⟨gP,gQ,gR,gS⟩:=aT.out.c4 0 1 2 3 rfl rfl rfl rfl
     have aB:=hJ (OwnR.new aX.out bF.out)
     have gT:=OwnR.frz aB.out (kw*8)
     have gU:=aB.out.at (kw*8) cJ.out
     have gV:=OwnR.frz aB.out (kw*8+1)
     have gW:=aB.out.at (kw*8+1) cK.out
     have gX:=OwnR.frz aB.out (kw*8+2)
     have gY:=aB.out.at (kw*8+2) cL.out
     have gZ:=OwnR.frz aB.out (kw*8+3)
     have hA:=aB.out.at (kw*8+3) cM.out
     obtain ⟨x34,dR⟩:=nmz (World.setCell (World.setCell (World.setCell (World.setCell v18 ⟨gq,kw*8,none⟩ (.bool s14)) ⟨gq,kw*8+1,none⟩ (.slice A14 n14 c14)) ⟨gq,kw*8+2,none⟩ (.bool t14)) ⟨gq,kw*8+3,none⟩ (.slice B14 m14 d14))
     have dS:=hJ (show sto v18 gq (kw*8) [.bool s14,.slice A14 n14 c14,.bool t14,.slice B14 m14 d14]=x34 from dR)
     obtain ⟨U1,PX1,QX1,PY1,QY1,ho,hlg,hfr⟩:∃ U' PX' QX' PY' QY',OwnR noU x34 w1.heap.size 29 8 (.slice (some ⟨gq,0,none⟩) 4 cpq) 4 (rowQ U')∧LFg x34 PX' QX' PY' QY' U'∧(∀ j,j < 4→Fr (PX' j) (QX' j)∧Fr (PY' j) (QY' j)):=by rw [←dS.out]; exact row_setX aB.out bR.out bS.out bB.out bP.out bN.out
     have hB:=hJ ho
     have hC:=hJ hlg
     have hD:=hJ hfr
     clear ho hlg hfr
     have cR:=hJ (show Below w.heap.size w x34 by rw [←dS.out]; exact below_sto (bt bL.out aS.out) (Nat.le_trans (bD.out).size aU.out) _ _)
     go_upto_region 19 with fail
     clear hkwp hkwq gP gQ gR gS gT gU gV gW gX gY gZ hA dR
     refine wp_mono (areas_t PX1 QX1 PY1 QY1 U1 w1.heap.size gq cpq w x34 hD hC hB (hJ cR.out) _ (by assumption)) (fun e a w h=>by cases e <;> exact h)
    ·have hc1:(d4.tmod 2 == 0)=false:=by simp [hx]
     have hc2:(d8.tmod 3 == 0)=true:=by simp [hy]
     clear hx hy
     go_wp2_with fail
     refine (aroundz_any wh 4 v18 (by decide) (by decide) bJ.out).mono ?_
     rw [bQ.out]
     rintro e w35 ⟨rfl,rfl⟩
     have aF:=hJ (rowQ_get U bC.out)
     have gE:=hJ aF.out.1
     have gF:=hJ aF.out.2.1
     have gG:=hJ aF.out.2.2.1
     have gH:=hJ aF.out.2.2.2.1
     have cN:=hJ aF.out.2.2.2.2.1
     have cO:=hJ aF.out.2.2.2.2.2.1
     have cP:=hJ aF.out.2.2.2.2.2.2.1
     have cQ:=hJ aF.out.2.2.2.2.2.2.2
     have hkz4:=bC.out
     have hkzp:(0:Int)≤(kz:Int):=by omega
     have hkzq:(kz:Int) < 4:=by omega
     clear hkz4
     have dT:=hJ (bt dE.out aS.out)
     have dU:Hid (∀ w',Below v18.heap.size v18 w'→(fun w':World=>w'.cell? ⟨aA,0,none⟩=some (.bool s14)∧w'.cell? ⟨aA,1,none⟩=some (.slice A14 n14 c14)∧w'.cell? ⟨aA,2,none⟩=some (.bool t14)∧w'.cell? ⟨aA,3,none⟩=some (.slice B14 m14 d14)∧Below w1.heap.size w1 w') w'):=hJ (fun w' hb=>⟨(BX.new aT.out hb).cell 0 rfl,(BX.new aT.out hb).cell 1 rfl,(BX.new aT.out hb).cell 2 rfl,(BX.new aT.out hb).cell 3 rfl,(bt dT.out hb)⟩)
     have aB:=hJ (OwnR.new aX.out bF.out)
     go_wp2_with fail
     obtain ⟨v36,hv36⟩:=nmz (World.drew v18)
     have aW:=hJ (show Below v18.heap.size v18 v36 by rw [←hv36]; exact (Below.refl _ _).drew)
     refine whd dU hv36 (fun hHeld=>?_)
     clear hv36
     refine tq 0 ?_
     refine tq 1 ?_
     try simp only [PT]
     refine tk 2 (.int .i64 q24) ?_ ?_
     ·intro w hSw
      (try dsimp only at hSw)
      go_simp
      first | rw [dL.out] | rfl
     refine tq 4 ?_
     try simp only [PT]
     refine ryy [3] ?_
     refine .cons rfl (fun K hK=>?_) .nil
     go_simp
     go_at_call 16
     refine (aroundz_any q24 4 v36 (by decide) (by decide) dM.out).mono ?_
     rw [dN.out]
     rintro e v37 ⟨rfl,rfl⟩
     go_wp2_with fail
     clear hHeld
     refine hK.out _ _ (dU.out _ aW.out) (fun hHeld=>?_)
     clear hK K
     refine tq 5 ?_
     refine tq 6 ?_
     try simp only [PT]
     refine ryy [7] ?_
     refine .cons rfl (fun K hK=>?_) .nil
     have aK:=hJ (OwnR.new aB.out aW.out)
     have z38_0:=aK.out.at (kz*8+4) cN.out
     have y38_0:=OwnR.frz aK.out (kz*8+4)
     have z38_1:=aK.out.at (kz*8+4+1) cO.out
     have y38_1:=OwnR.frz aK.out (kz*8+4+1)
     have z38_2:=aK.out.at (kz*8+4+2) cP.out
     have y38_2:=OwnR.frz aK.out (kz*8+4+2)
     have z38_3:=aK.out.at (kz*8+4+3) cQ.out
     have y38_3:=OwnR.frz aK.out (kz*8+4+3)
     go_simp
     obtain ⟨v38,hV⟩:=nmz (World.setCell (World.setCell (World.setCell (World.setCell v36 ⟨gq,kz*8+4,none⟩ (.bool s14)) ⟨gq,kz*8+4+1,none⟩ (.slice A14 n14 c14)) ⟨gq,kz*8+4+2,none⟩ (.bool t14)) ⟨gq,kz*8+4+3,none⟩ (.slice B14 m14 d14))
     rw [hV]
     have bV:=hJ (show sto v36 gq (kz*8+4) [.bool s14,.slice A14 n14 c14,.bool t14,.slice B14 m14 d14]=v38 from hV)
     clear hV z38_0 y38_0 z38_1 y38_1 z38_2 y38_2 z38_3 y38_3
     have hE:=hJ (show Below w1.heap.size w1 v38 by rw [←bV.out]; exact below_sto (bt dT.out aW.out) aU.out _ _)
     have bW:=hJ (show BX 27 v38 aA #[.bool s14,.slice A14 n14 c14,.bool t14,.slice B14 m14 d14] by rw [←bV.out]; exact BX.far (BX.new aT.out aW.out) (show aA≠gq by have h1:=bZ.out; have h2:=aR.out; have h3:=(bM.out).size; omega) _ _)
     clear hHeld
     refine hK.out _ _ (⟨bW.out.cell 0 rfl,bW.out.cell 1 rfl,bW.out.cell 2 rfl,bW.out.cell 3 rfl,hE.out⟩) (fun hHeld=>?_)
     clear hK K
     try simp only [PT]
     refine wpAnyH_done (by kernel_rfl) ?_ _
     clear hHeld
     have hG:=hJ (LFg.new bR.out aW.out)
     have hH:=hJ (PF.new bP.out aW.out)
     obtain ⟨U1,PX1,QX1,PY1,QY1,ho,hlg,hfr⟩:∃ U' PX' QX' PY' QY',OwnR noU v38 w1.heap.size 29 8 (.slice (some ⟨gq,0,none⟩) 4 cpq) 4 (rowQ U')∧LFg v38 PX' QX' PY' QY' U'∧(∀ j,j < 4→Fr (PX' j) (QX' j)∧Fr (PY' j) (QY' j)):=by rw [←bV.out]; exact row_setY aK.out hG.out bS.out bC.out hH.out bN.out
     have hI:=hJ ho
     have hL:=hJ hlg
     have hM:=hJ hfr
     clear ho hlg hfr
     have hN:=hJ (show Below w.heap.size w v38 by rw [←bV.out]; exact below_sto (bt (bt bL.out aS.out) aW.out) (Nat.le_trans (bD.out).size aU.out) _ _)
     go_upto_region 19 with fail
     refine wp_mono (areas_t PX1 QX1 PY1 QY1 U1 w1.heap.size gq cpq w v38 hM hL hI (hJ hN.out) _ (by assumption)) (fun e a w h=>by cases e <;> exact h)
    have hc1:(d4.tmod 2 == 0)=false:=by simp [hx]
    have hc2:(d8.tmod 3 == 0)=false:=by simp [hy]
    clear hx hy
    go_wp2_with fail
    refine (aroundz_any wh 4 v18 (by decide) (by decide) bJ.out).mono ?_
    rw [bQ.out]
    rintro e w39 ⟨rfl,rfl⟩
    have aB:=hJ (OwnR.new aX.out bF.out)
    have hO:=hJ (bt bL.out aS.out)
    go_upto_region 19 with fail
    refine wp_mono (areas_t PX0 QX0 PY0 QY0 U w1.heap.size gq cpq w v18 bS bR aB (hJ hO.out) _ (by assumption)) (fun e a w h=>by cases e <;> exact h)
   have dW:∀ (s13:Bool) (A13:Option Addr) (n13:Nat) (c13:Nat) (s14:Bool) (A14:Option Addr) (n14:Nat) (c14:Nat) (t14:Bool) (B14:Option Addr) (m14:Nat) (d14:Nat) (v:World),Hid (Below wl5.heap.size wl5 v)→Hid (PI v s13 A13 n13 c13 7)→Hid (PF v s14 A14 n14 c14 t14 B14 m14 d14 bp bq)→F 3 (Array.setIfInBounds (Array.setIfInBounds (Array.setIfInBounds (Array.setIfInBounds (Array.setIfInBounds L0 1 true) 2 true) 3 true) 4 true) 5 true) (Act.put (Act.put (Act.put (Act.put (Act.put a0 (some 58) (.agg #[.bool s13,.slice A13 n13 c13])) (some 59) (.tuple #[.agg #[.bool s14,.slice A14 n14 c14,.bool t14,.slice B14 m14 d14],.int .i64 0])) (some 56) (.tuple #[.agg #[.bool s14,.slice A14 n14 c14,.bool t14,.slice B14 m14 d14],.int .i64 0])) (some 60) (.agg #[.bool s14,.slice A14 n14 c14,.bool t14,.slice B14 m14 d14])) (some 61) (.int .i64 0)) v:=by
    intro s13 A13 n13 c13 s14 A14 n14 c14 t14 B14 m14 d14 v aC aI cH
    subst hF ha0 hL0
    simp only [PT] at bO ⊢
    have hHeld:=aH.out _ aC.out
    refine ryy [6] ?_
    refine .cons rfl (fun K hK=>?_) .nil
    go_simp
    have bX:=hJ ((Below.refl v.heap.size v).alloc (Nat.le_refl _) (.cells #[.bool false,.slice none 0 0,.bool false,.slice none 0 0] 27))
    have cS:=hJ (BX.lit v 27 #[.bool false,.slice none 0 0,.bool false,.slice none 0 0])
    obtain ⟨v40,hV⟩:=nmz (World.alloc v (.cells #[.bool false,.slice none 0 0,.bool false,.slice none 0 0] 27))
    obtain ⟨aA,hg⟩:=nmz (v.heap.size)
    rw [hV] at bX cS ⊢
    rw [hg] at cS ⊢
    have hP:=hJ (show wl5.heap.size≤aA by rw [←hg]; exact aC.out.size)
    clear hV hg
    have dX:=hJ (bt aC.out bX.out)
    have hQ:=hJ (PIo.new aI.out bX.out)
    have hR:=hJ (PF.new cH.out bX.out)
    clear hHeld
    refine hK.out _ _ (aH.out _ dX.out) (fun hHeld=>?_)
    clear hK K
    try simp only [PT]
    exact wpAnyH_cast (by kernel_rfl) (bO s13 A13 n13 c13 s14 A14 n14 c14 t14 B14 m14 d14 aA v40 dX hQ hR cS hP)
   have bY:∀ (s13:Bool) (A13:Option Addr) (n13:Nat) (c13:Nat) (aA:Nat) (v:World),Hid (Below wl5.heap.size wl5 v)→Hid (PI v s13 A13 n13 c13 7)→Hid (BX 27 v aA #[.bool false,.slice none 0 0,.bool false,.slice none 0 0])→Hid (wl5.heap.size≤aA)→F 6 (Array.setIfInBounds (Array.setIfInBounds L0 1 true) 6 true) (Act.put (Act.put a0 (some 58) (.agg #[.bool s13,.slice A13 n13 c13])) (some 13) (.pointer (some ⟨aA,0,none⟩))) v:=by
    intro s13 A13 n13 c13 aA v aC aI aG aR
    subst hF ha0 hL0
    simp only [PT] at bO ⊢
    have hHeld:=aH.out _ aC.out
    refine ryy [2] ?_
    refine .cons rfl (fun K hK=>?_) .nil
    go_simp
    go_at_call 22
    refine (fmake_any z5 7 aL s13 aM A13 aN aO n13 c13 v (PIo.new aY.out aC.out) aI.out aZ.out (i64_lim (x:=7) (by decide))).mono ?_
    rw [dJ.out,dK.out,dI.out]
    rintro e v41 ⟨s14,A14,n14,c14,t14,B14,m14,d14,rfl,hr14,hb⟩
    have cT:=hJ hb
    have hS:=hJ hr14
    clear hb hr14
    go_wp2_with fail
    have dY:=hJ (bt aC.out cT.out)
    have hT:=hJ (PIo.new aI.out cT.out)
    have hU:=hJ (BX.new aG.out cT.out)
    clear hHeld
    refine hK.out _ _ (aH.out _ dY.out) (fun hHeld=>?_)
    clear hK K
    refine tq 3 ?_
    refine tq 4 ?_
    refine tq 5 ?_
    try simp only [PT]
    exact wpAnyH_cast (by kernel_rfl) (bO s13 A13 n13 c13 s14 A14 n14 c14 t14 B14 m14 d14 aA v41 dY hT hS hU aR)
   have dZ:∀ (s13:Bool) (A13:Option Addr) (n13:Nat) (c13:Nat) (v:World),Hid (Below wl5.heap.size wl5 v)→Hid (PI v s13 A13 n13 c13 7)→F 7 (Array.setIfInBounds L0 1 true) (Act.put a0 (some 58) (.agg #[.bool s13,.slice A13 n13 c13])) v:=by
    intro s13 A13 n13 c13 v aC aI
    subst hF ha0 hL0
    simp only [PT] at dW bY ⊢
    have hHeld:=aH.out _ aC.out
    refine ryy [2,6] ?_
    refine .cons rfl (fun K hK=>?_) ?_
    go_simp
    go_at_call 22
    refine (fmake_any z5 7 aL s13 aM A13 aN aO n13 c13 v (PIo.new aY.out aC.out) aI.out aZ.out (i64_lim (x:=7) (by decide))).mono ?_
    rw [dJ.out,dK.out,dI.out]
    rintro e v42 ⟨s14,A14,n14,c14,t14,B14,m14,d14,rfl,hr14,hb⟩
    have eA:=hJ hb
    have hW:=hJ hr14
    clear hb hr14
    go_wp2_with fail
    have eB:=hJ (bt aC.out eA.out)
    have hX:=hJ (PIo.new aI.out eA.out)
    clear hHeld
    refine hK.out _ _ (aH.out _ eB.out) (fun hHeld=>?_)
    clear hK K
    refine tq 3 ?_
    refine tq 4 ?_
    refine tq 5 ?_
    try simp only [PT]
    exact wpAnyH_cast (by kernel_rfl) (dW s13 A13 n13 c13 s14 A14 n14 c14 t14 B14 m14 d14 v42 eB hX hW)
    refine .cons rfl (fun K hK=>?_) .nil
    go_simp
    have cU:=hJ ((Below.refl v.heap.size v).alloc (Nat.le_refl _) (.cells #[.bool false,.slice none 0 0,.bool false,.slice none 0 0] 27))
    have cV:=hJ (BX.lit v 27 #[.bool false,.slice none 0 0,.bool false,.slice none 0 0])
    obtain ⟨v43,hV⟩:=nmz (World.alloc v (.cells #[.bool false,.slice none 0 0,.bool false,.slice none 0 0] 27))
    obtain ⟨aA,hg⟩:=nmz (v.heap.size)
    rw [hV] at cU cV ⊢
    rw [hg] at cV ⊢
    have hY:=hJ (show wl5.heap.size≤aA by rw [←hg]; exact aC.out.size)
    clear hV hg
    have eC:=hJ (bt aC.out cU.out)
    have hZ:=hJ (PIo.new aI.out cU.out)
    clear hHeld
    refine hK.out _ _ (aH.out _ eC.out) (fun hHeld=>?_)
    clear hK K
    try simp only [PT]
    exact wpAnyH_cast (by kernel_rfl) (bY s13 A13 n13 c13 aA v43 eC hZ cV hY)
   have eD:∀ (aA:Nat) (v:World),Hid (Below wl5.heap.size wl5 v)→Hid (BX 27 v aA #[.bool false,.slice none 0 0,.bool false,.slice none 0 0])→Hid (wl5.heap.size≤aA)→F 7 (Array.setIfInBounds L0 6 true) (Act.put a0 (some 13) (.pointer (some ⟨aA,0,none⟩))) v:=by
    intro aA v aC aG aR
    subst hF ha0 hL0
    simp only [PT] at bY ⊢
    have hHeld:=aH.out _ aC.out
    refine ryy [1] ?_
    refine .cons rfl (fun K hK=>?_) .nil
    go_simp
    go_at_call 20
    refine (from_any 7 v (by decide)).mono ?_
    rintro e v44 ⟨s13,A13,n13,c13,rfl,hr13,hb⟩
    have eE:=hJ hb
    have iA:=hJ hr13
    clear hb hr13
    go_wp2_with fail
    have eF:=hJ (bt aC.out eE.out)
    have iB:=hJ (BX.new aG.out eE.out)
    clear hHeld
    refine hK.out _ _ (aH.out _ eF.out) (fun hHeld=>?_)
    clear hK K
    try simp only [PT]
    exact wpAnyH_cast (by kernel_rfl) (bY s13 A13 n13 c13 aA v44 eF iA iB aR)
   subst hF ha0 hL0
   simp only [PT] at dZ eD
   refine ryy [1,6] ?_
   refine .cons rfl (fun K hK=>?_) ?_
   go_simp
   go_at_call 20
   refine (from_any 7 v17 (by decide)).mono ?_
   rintro e v45 ⟨s13,A13,n13,c13,rfl,hr13,hb⟩
   have iC:=hJ hb
   have iD:=hJ hr13
   clear hb hr13
   go_wp2_with fail
   have eG:=hJ (bt cG.out iC.out)
   clear hHeld
   refine hK.out _ _ (aH.out _ eG.out) (fun hHeld=>?_)
   clear hK K
   try simp only [PT]
   exact wpAnyH_cast (by kernel_rfl) (dZ s13 A13 n13 c13 v45 eG iD)
   refine .cons rfl (fun K hK=>?_) .nil
   go_simp
   have eH:=hJ ((Below.refl v17.heap.size v17).alloc (Nat.le_refl _) (.cells #[.bool false,.slice none 0 0,.bool false,.slice none 0 0] 27))
   have cW:=hJ (BX.lit v17 27 #[.bool false,.slice none 0 0,.bool false,.slice none 0 0])
   obtain ⟨v46,hV⟩:=nmz (World.alloc v17 (.cells #[.bool false,.slice none 0 0,.bool false,.slice none 0 0] 27))
   obtain ⟨aA,hg⟩:=nmz (v17.heap.size)
   rw [hV] at eH cW ⊢
   rw [hg] at cW ⊢
   have iE:=hJ (show wl5.heap.size≤aA by rw [←hg]; exact cG.out.size)
   clear hV hg
   have eI:=hJ (bt cG.out eH.out)
   clear hHeld
   refine hK.out _ _ (aH.out _ eI.out) (fun hHeld=>?_)
   clear hK K
   try simp only [PT]
   exact wpAnyH_cast (by kernel_rfl) (eD aA v46 eI cW iE)
theorem exactAreas_law (a0:Option Addr) (len0 cap0:Nat) (z0:List Int) (a1 a2:Int) (w:World) (w0:RowJ .i64 w a0 len0 cap0 z0) (w1:(Lit.int .i64 a1).wf=true) (w2:(Lit.int .i64 a2).wf=true) :
  Calls Tryz.prog 4 #[.slice a0 len0 cap0,.int .i64 a1,.int .i64 a2] w fun e w'=>e=.returned (.bool true)∧Below w.heap.size w w':=by
 obtain ⟨ls,h1,h2,h3,h4⟩:=w0.openJ
 exact exactAreas_walk a0 len0 cap0 ls a1 a2 w ⟨h4,by rw [h1]; exact h2,h3⟩ w1 w2
end Go.Proofs.YtbgfmegepekapaaGreat
