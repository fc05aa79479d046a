/- The walk of the law PointBytes. -/
import Derived.Laws.BytesArg
import Derived.Lib.ConvBytes
import Derived.Test.YtbgfmegepekapaaGreatAE
import Derived.Test.YtbgfmegepekapaaGreatB2
import Derived.Test.YtbgfmegepekapaaGreatB5
import Derived.Test.YtbgfmegepekapaaGreatEQ
import Derived.Test.YtbgfmegepekapaaGreatFD
import Derived.Test.YtbgfmegepekapaaGreatGD
import Derived.Test.YtbgfmegepekapaaGreatGK
import Derived.Test.YtbgfmegepekapaaGreatGM
import Derived.Test.YtbgfmegepekapaaGreatGN
import Derived.Test.YtbgfmegepekapaaGreatGP
import Derived.Test.YtbgfmegepekapaaGreatGR
import Derived.Test.YtbgfmegepekapaaGreatGW
import Derived.Test.YtbgfmegepekapaaGreatQL
import Derived.Test.YtbgfmegepekapaaGreatRI
import Derived.Test.YtbgfmegepekapaaGreatWE
import Derived.Test.YtbgfmegepekapaaGreatWF
import Derived.Test.YtbgfmegepekapaaGreatWS
namespace Go.Proofs.YtbgfmegepekapaaGreat
open Go.RowKit
attribute [local go_sem ↓] Go.wp_at_zero Go.wp_at_succ
set_option linter.unusedVariables false
set_option linter.unusedSimpArgs false
theorem src_belowJ {k:IntKind} {w w':World} {sv:Value} {xs:List Int} (h:Src k w sv xs) (hb:Below w.heap.size w w'):Src k w' sv xs:=by
 rcases h with h | ⟨ad,c,h1,h2,h3⟩
 ·exact .inl h
 ·exact .inr ⟨ad,c,h1,h2,fun j v hj=>(hb.cell (World.block_lt_of_cell? w _ (h3 j v hj))).trans (h3 j v hj)⟩
theorem conv_lt {w W1:World} {n c:Nat} {xs:List Int} (h:Rd .u8 W1 W1.heap.size (.slice (some ⟨w.heap.size,0,none⟩) n c) xs):w.heap.size < W1.heap.size:=by
 rcases h with ⟨h0,_⟩ | ⟨b,off,c',h1,_,h3,_⟩
 ·cases h0
 ·injection h1 with e1; injection e1 with e1; injection e1 with e1; omega
theorem wra_bx {w:World} {g:Nat} (h:BX 37 w g #[.slice none 0 0]):WrA w g none []:=⟨0,h,World.ownsRow_nil _ _ _ _⟩
theorem in_of {w:World} {base n g c:Nat} {l:List UInt8} (h:OwnR anyV w base 5 1 (.slice (some ⟨g,0,none⟩) n c) n (vs .u8 (bI l))):In .u8 w (base ≤ ·) (.slice (some ⟨g,0,none⟩) n c) (bI l):=In.own h.1
theorem vs_at {l:List UInt8} {k:Nat} (h:k < l.length):∃ b:UInt8,(vs .u8 (bI l))[k]?=some (.int .u8 (b.toNat:Int)):=by
 refine ⟨l[k],?_⟩
 simp [vs,bI,h]
theorem in_grow {k:IntKind} {w w':World} {sv:Value} {xs:List Int} {okv:Value→Bool} {base:Nat} {e:TypeId} {size n:Nat} {v:Value} {ys:List Value} (h:In k w (· < base) sv xs) (hg:Grew okv w v ys w') (ho:OwnR okv w base e size v n ys):In k w' (· < base) sv xs:=by
 rcases h with h | ⟨b,off,c,h1,h2,h3,h4,h5⟩
 ·exact .inl h
 ·have hb:=hg.1.block b h4 (fun e=>by have:=(ho.1.lt b e.symm).1; have h3':b < base:=h3; omega)
  have hlt:b < w'.heap.size:=by
   rcases hw:w.heap[b]? with _ | o
   ·rw [Array.getElem?_eq_none_iff] at hw; omega
   rw [hw] at hb; exact (Array.getElem?_eq_some_iff.1 hb).1
  exact .inr ⟨b,off,c,h1,h2,h3,hlt,fun j u hu=>(World.cell?_of_block hb).trans (h5 j u hu)⟩
/-- A row of the call's own that is newer than L, and a slice that is older than it. -/
def OB2 (L:Nat) (w:World) (v:Value) (n:Nat) (X:List UInt8) (sv:Value) (Y:List UInt8):Prop:=∃ B,L≤B∧B≤w.heap.size∧OwnR anyV w B 5 1 v n (vs .u8 (bI X))∧In .u8 w (· < B) sv (bI Y)
theorem ob2_new {L:Nat} {w w':World} {v:Value} {n:Nat} {X:List UInt8} {sv:Value} {Y:List UInt8} (h:OB2 L w v n X sv Y) (hb:Below w.heap.size w w'):OB2 L w' v n X sv Y:=by
 obtain ⟨B,h1,h2,h3,h4⟩:=h
 exact ⟨B,h1,Nat.le_trans h2 hb.size,OwnR.new h3 hb,In.new h4 hb⟩
theorem fewb_any (sv:Value) (l T:List UInt8) (m n:Nat) (w:World) (h:Src .u8 w sv (bI l)) (hx:l.length≤maxLen) (hm:m≤20000) (hT:l.take m=T) (hn:T.length=n) :
  Calls Tryz.prog 15 #[sv,.int .i64 m] w fun e w'=>∃ A c,e=.returned (.slice A n c)∧In .u8 w' (fun _=>True) (.slice A n c) (bI T)∧Below w.heap.size w w':=by
 refine (few_any sv (bI l) m w h (by rw [bI_len]; exact hx) hm).mono ?_
 rintro e w1 ⟨A,c,rfl,hown,hb⟩
 rw [bI_takeb,hT,bI_len,hn] at hown ⊢
 exact ⟨A,c,rfl,(In.own hown).mono (fun _ _ _=>trivial),hb⟩
theorem fewc_any (L:Nat) (sv:Value) (l:List UInt8) (m n:Nat) (sv0:Value) (Y:List UInt8) (w:World) (hL:L≤w.heap.size) (h:Src .u8 w sv (bI l)) (hx:l.length≤maxLen) (hm:m≤20000) (hT:l.take m=l) (hn:l.length=n) {ok:Nat→Prop} (hI:In .u8 w ok sv0 (bI Y)) :
  Calls Tryz.prog 15 #[sv,.int .i64 m] w fun e w'=>∃ A c,e=.returned (.slice A n c)∧OB2 L w' (.slice A n c) n l sv0 Y∧Below w.heap.size w w':=by
 refine (few_any sv (bI l) m w h (by rw [bI_len]; exact hx) hm).mono ?_
 rintro e w1 ⟨A,c,rfl,hown,hb⟩
 rw [bI_takeb,hT,bI_len,hn] at hown ⊢
 exact ⟨A,c,rfl,⟨w.heap.size,hL,hb.size,own_any hown,(hI.mono (ok':=(· < w.heap.size)) (fun _ h _=>h)).new hb⟩,hb⟩
theorem encb_any (p q u v:Int) (T:List UInt8) (n:Nat) (s0:Bool) (A0:Option Addr) (n0 c0:Nat) (t0:Bool) (B0:Option Addr) (m0 d0:Nat) (s1:Bool) (A1:Option Addr) (n1 c1:Nat) (t1:Bool) (B1:Option Addr) (m1 d1:Nat) (w:World) (h0:PF w s0 A0 n0 c0 t0 B0 m0 d0 p q) (h1:PF w s1 A1 n1 c1 t1 B1 m1 d1 u v) (hl:(0 < q∧p.natAbs < lim∧q.natAbs < lim)∧(0 < v∧u.natAbs < lim∧v.natAbs < lim)) (ht:(fracT p q).length≤1000∧(fracT u v).length≤1000) (hT:encP p q u v=T) (hn:T.length=n) :
  Calls Tryz.prog 8 #[.agg #[.bool s0,.slice A0 n0 c0,.bool t0,.slice B0 m0 d0,.bool s1,.slice A1 n1 c1,.bool t1,.slice B1 m1 d1]] w fun e w'=>∃ A c,e=.returned (.slice A n c)∧In .u8 w' (fun _=>True) (.slice A n c) (bI T)∧Below w.heap.size w w':=by
 refine (encode_any p q u v s0 A0 n0 c0 t0 B0 m0 d0 s1 A1 n1 c1 t1 B1 m1 d1 w h0 h1 hl ht).mono ?_
 rintro e w1 ⟨A,c,rfl,hown,hb⟩
 rw [hT,bI_len,hn] at hown ⊢
 exact ⟨A,c,rfl,(In.own hown).mono (fun _ _ _=>trivial),hb⟩
set_option maxRecDepth 100000 in
set_option maxHeartbeats 12800000 in
theorem pointBytes_walk (a0 at0:Int) (cb:UInt8) (rl:List UInt8) (A3:Option Addr) (l3 c3:Nat) (w:World) (ha:(Lit.int .i64 a0).wf=true) (hat:(Lit.int .i64 at0).wf=true) (hr:Src .u8 w (.slice A3 l3 c3) (bI rl)) (hrl:rl.length≤maxLen) :
  Calls Tryz.prog 3 #[.int .i64 a0,.int .i64 at0,.int .u8 (cb.toNat:Int),.slice A3 l3 c3] w fun e w'=>e=.returned (.bool true)∧Below w.heap.size w w':=by
 have fV:=hJ ha
 have fW:=hJ hat
 have fX:=hJ hr
 have dU:=hJ hrl
 clear ha hat hr hrl
 go_enter Tryz.func3,Tryz.ntmps3
 go_wp2_with fail
 refine (some_any a0 w fV.out).mono ?_
 rintro e w1 ⟨x11,y11,d11,rfl,hs11,hb⟩
 have fY:=hJ hb
 clear hb
 have fZ:=hJ hs11
 clear hs11
 have bO:=hJ (sm_frs fZ.out)
 obtain ⟨p,hp⟩:∃ t,mkP x11 d11=t:=⟨_,rfl⟩
 obtain ⟨q,hq⟩:∃ t,mkQ x11 d11=t:=⟨_,rfl⟩
 obtain ⟨u,hu⟩:∃ t,mkP y11 d11=t:=⟨_,rfl⟩
 obtain ⟨v,hv⟩:∃ t,mkQ y11 d11=t:=⟨_,rfl⟩
 have bP:=hJ (show (mkP x11 d11=p∧mkQ x11 d11=q)∧(mkP y11 d11=u∧mkQ y11 d11=v) from ⟨⟨hp,hq⟩,hu,hv⟩)
 have aA:=hJ (show (Fr p q∧Fr u v)∧(p.natAbs < 1000000000∧q.natAbs < 1000000000)∧(u.natAbs < 1000000000∧v.natAbs < 1000000000) by rw [←hp,←hq,←hu,←hv]; exact bO.out.1)
 obtain ⟨TA,hta⟩:∃ t,fracT p q=t:=⟨_,rfl⟩
 obtain ⟨TB,htb⟩:∃ t,fracT u v=t:=⟨_,rfl⟩
 have dW:=hJ hta
 have dX:=hJ htb
 have bA:=hJ (show (1≤TA.length∧TA.length≤21)∧(1≤TB.length∧TB.length≤21) by rw [←hta,←htb]; exact ⟨fracT_len21 aA.out.2.1.1 aA.out.2.1.2,fracT_len21 aA.out.2.2.1 aA.out.2.2.2⟩)
 obtain ⟨eb,heb⟩:∃ t,encP p q u v=t:=⟨_,rfl⟩
 obtain ⟨nb,hnb⟩:∃ t,eb.length=t:=⟨_,rfl⟩
 have gA:=hJ heb
 have aG:=hJ hnb
 have aB:=hJ (show 1≤nb∧nb≤62 by rw [←hnb,←heb]; exact enc_len aA.out.2.1.1 aA.out.2.1.2 aA.out.2.2.1 aA.out.2.2.2)
 have bE:=hJ (show dcE eb=0∧(dcP1 eb=p∧dcQ1 eb=q)∧dcP2 eb=u∧dcQ2 eb=v by rw [←heb]; exact dec_enc aA.out.1.1 aA.out.1.2 (by rw [hta]; have:=bA.out.1.2; omega) (by rw [htb]; have:=bA.out.2.2; omega))
 have gB:=hJ (show rawE TA ++ rawE TB=eb by rw [←heb,←hta,←htb]; rfl)
 clear hp hq hu hv hta htb heb hnb
 go_wp2_with fail
 refine (real_any x11 y11 d11 w1 bO.out.2.1 bO.out.2.2.1 bO.out.2.2.2).mono ?_
 rw [bP.out.1.1,bP.out.1.2,bP.out.2.1,bP.out.2.2]
 rintro e w2 ⟨s12,A12,n12,c12,t12,B12,m12,d12,s13,A13,n13,c13,t13,B13,m13,d13,rfl,hr12,hr13,hb⟩
 have gC:=hJ hb
 have gD:=hJ hr12
 have gE:=hJ hr13
 clear hb hr12 hr13
 obtain ⟨x3,cH⟩:=nmz (w2.alloc (.cells #[.bool s12,.slice A12 n12 c12,.bool t12,.slice B12 m12 d12,.bool s13,.slice A13 n13 c13,.bool t13,.slice B13 m13 d13] 29))
 have cI:=hJ (show Below w2.heap.size w2 x3 by rw [←cH]; exact ((Below.refl _ _).alloc (Nat.le_refl _) _))
 have bQ:=hJ (show BX 29 x3 w2.heap.size #[.bool s12,.slice A12 n12 c12,.bool t12,.slice B12 m12 d12,.bool s13,.slice A13 n13 c13,.bool t13,.slice B13 m13 d13] by rw [←cH]; exact (BX.at rfl))
 obtain ⟨gF,gG,gH,gI,gJ,gK,gL,gM⟩:=bQ.out.q8 0 1 2 3 4 5 6 7
 have cJ:=hJ (PF.new gD.out cI.out)
 have cK:=hJ (PF.new gE.out cI.out)
 go_wp2_with fail
 clear cH gF gG gH gI gJ gK gL gM
 refine (encode_any p q u v s12 A12 n12 c12 t12 B12 m12 d12 s13 A13 n13 c13 t13 B13 m13 d13 x3 cJ.out cK.out ⟨⟨aA.out.1.1.1.1,aA.out.1.1.2.1,aA.out.1.1.2.2⟩,⟨aA.out.1.2.1.1,aA.out.1.2.2.1,aA.out.1.2.2.2⟩⟩ (by rw [dW.out,dX.out]; have:=bA.out; omega)).mono ?_
 rw [gA.out]
 rintro e w12 ⟨ab,kb,rfl,hown,hb⟩
 rw [bI_len,aG.out] at hown ⊢
 have gN:=hJ (show In .u8 w12 (x3.heap.size ≤ ·) (.slice ab nb kb) (bI eb) from In.own hown)
 have bR:=hJ hb
 clear hown hb
 obtain ⟨x13,cL⟩:=nmz (w12.alloc (.cells #[.slice none 0 0] 37))
 have dY:=hJ (show Below w12.heap.size w12 x13 by rw [←cL]; exact ((Below.refl _ _).alloc (Nat.le_refl _) _))
 have gO:=hJ (show BX 37 x13 w12.heap.size #[.slice none 0 0] by rw [←cL]; exact (BX.at rfl))
 have dZ:=hJ (bt bR.out dY.out)
 have gP:=hJ (BX.new bQ.out dZ.out)
 obtain ⟨gQ,gR,gS,gT⟩:=gP.out.c4 0 1 2 3 rfl rfl rfl rfl
 have gU:=hJ (PF.new cJ.out dZ.out)
 go_wp2_with fail
 clear cL gQ gR gS gT
 refine (fstring_any p q s12 t12 A12 B12 n12 c12 m12 d12 x13 gU.out aA.out.1.1.2.1 aA.out.1.1.2.2 aA.out.1.1.1.1).mono ?_
 rw [dW.out]
 rintro e w18 ⟨rfl,hb⟩
 have eA:=hJ hb
 clear hb
 obtain ⟨x19,c19,hrun,hb,hrd⟩:=conv_bytes (P:=Tryz.prog) w18 9 22 5 ⟨TA.toArray⟩ Tryz.underlying9 Tryz.underlying22 Tryz.underlying5
 obtain ⟨m19,hm⟩:=nmz (TA.length)
 have hsz:(ByteArray.mk TA.toArray).size=m19:=by rw [←hm]; simp [ByteArray.size]
 rw [hsz] at hrun hrd
 have eB:=hJ hm
 have gV:=hJ (show Rd .u8 x19 x19.heap.size (.slice (some ⟨w18.heap.size,0,none⟩) m19 c19) (bI TA) from hrd)
 have eC:=hJ hb
 have gW:=hJ (conv_lt hrd)
 clear hsz hm hrd hb
 have eD:=hJ (BX.new gO.out eA.out)
 have gX:=hJ (in_conv (g:=w12.heap.size) (a:=none) eD.out.lt (fun x e=>by cases e) gW.out gV.out)
 have gY:=hJ (show WrA x19 w12.heap.size none [] from wra_bx (BX.new eD.out eC.out))
 go_wp2_with fail
 clear hrun
 refine (wrawf_any TA (some ⟨w18.heap.size,0,none⟩) m19 c19 w12.heap.size none [] x19 eB.out (by have h1:=eB.out; have h2:=bA.out; omega) gX.out gY.out (by simp)).mono ?_
 rintro e w20 ⟨rfl,aw20,hwr,hfr,hbg⟩
 have gZ:=hJ (show WrA w20 w12.heap.size aw20 (rawE TA) from hwr)
 have hA:=hJ (bt (bt dY.out eA.out) eC.out)
 have hB:=hJ (bt (bt (bt fY.out gC.out) cI.out) bR.out)
 have eE:=hJ (show Below w12.heap.size w12 w20 from Below.trans hA.out hbg)
 have eF:=hJ (bt bR.out eE.out)
 clear hwr hfr hbg
 have hC:=hJ (BX.new bQ.out eF.out)
 obtain ⟨hD,hE,hG,hH⟩:=hC.out.c4 4 5 6 7 rfl rfl rfl rfl
 have hL:=hJ (PF.new cK.out eF.out)
 go_wp2_with fail
 clear hD hE hG hH
 refine (fstring_any u v s13 t13 A13 B13 n13 c13 m13 d13 w20 hL.out aA.out.1.2.2.1 aA.out.1.2.2.2 aA.out.1.2.1.1).mono ?_
 rw [dX.out]
 rintro e w25 ⟨rfl,hb⟩
 have eG:=hJ hb
 clear hb
 obtain ⟨x26,c26,hrun,hb,hrd⟩:=conv_bytes (P:=Tryz.prog) w25 9 22 5 ⟨TB.toArray⟩ Tryz.underlying9 Tryz.underlying22 Tryz.underlying5
 obtain ⟨m26,hm⟩:=nmz (TB.length)
 have hsz:(ByteArray.mk TB.toArray).size=m26:=by rw [←hm]; simp [ByteArray.size]
 rw [hsz] at hrun hrd
 have eH:=hJ hm
 have hM:=hJ (show Rd .u8 x26 x26.heap.size (.slice (some ⟨w25.heap.size,0,none⟩) m26 c26) (bI TB) from hrd)
 have eI:=hJ hb
 have hN:=hJ (conv_lt hrd)
 clear hsz hm hrd hb
 have cM:=hJ (show WrA w25 w12.heap.size aw20 (rawE TA) from WrA.new gZ.out eG.out)
 have hP:=hJ (in_conv (g:=w12.heap.size) (a:=aw20) cM.out.wr.lt (wra_row cM.out) hN.out hM.out)
 have hQ:=hJ (show WrA x26 w12.heap.size aw20 (rawE TA) from WrA.new cM.out eI.out)
 go_wp2_with fail
 clear hrun
 refine (wrawf_any TB (some ⟨w25.heap.size,0,none⟩) m26 c26 w12.heap.size aw20 (rawE TA) x26 eH.out (by have h1:=eH.out; have h2:=bA.out; omega) hP.out hQ.out (by unfold rawE; rw [List.length_append]; have h1:=bA.out.1.2; have h2:=uv_len10 (n:=TA.length) (by omega); omega)).mono ?_
 rintro e w28 ⟨rfl,aw28,hwr,hfr,hbg⟩
 have hR:=hJ (show WrA w28 w12.heap.size aw28 (rawE TA ++ rawE TB) from hwr)
 have hS:=hJ (bt (bt eE.out eG.out) eI.out)
 have cN:=hJ (show Below w12.heap.size w12 w28 from Below.trans hS.out hbg)
 have eJ:=hJ (bt hB.out cN.out)
 have hT:=hJ (bt bR.out cN.out)
 clear hwr hfr hbg
 have hU:=hJ (show WrA w28 w12.heap.size aw28 eb by rw [←gB.out]; exact hR.out)
 have eK:=hJ (In.new gN.out cN.out)
 go_wp2_with fail
 refine (decode_any eb ab nb kb _ w28 eK.out aG.out (by have:=aB.out; omega)).mono ?_
 rw [bE.out.2.1.1,bE.out.2.1.2,bE.out.2.2.1,bE.out.2.2.2,bE.out.1]
 rintro e w29 ⟨s14,A14,n14,c14,t14,B14,m14,d14,s15,A15,n15,c15,t15,B15,m15,d15,rfl,hr14,hr15,hb⟩
 have bS:=hJ hb
 have hW:=hJ hr14
 have hX:=hJ hr15
 clear hb hr14 hr15
 have hnb0:¬ nb=0:=by have:=aB.out; omega
 have hnb2:¬ (nb:Int)=0:=by omega
 have hnb3:((nb:Int) == 0)=false:=by simp; omega
 obtain ⟨x30,cO⟩:=nmz (w29.alloc (.cells #[.bool s14,.slice A14 n14 c14,.bool t14,.slice B14 m14 d14,.bool s15,.slice A15 n15 c15,.bool t15,.slice B15 m15 d15] 29))
 have bB:=hJ (show Below w29.heap.size w29 x30 by rw [←cO]; exact ((Below.refl _ _).alloc (Nat.le_refl _) _))
 have hY:=hJ (show BX 29 x30 w29.heap.size #[.bool s14,.slice A14 n14 c14,.bool t14,.slice B14 m14 d14,.bool s15,.slice A15 n15 c15,.bool t15,.slice B15 m15 d15] by rw [←cO]; exact (BX.at rfl))
 have cP:=hJ (bt (bt hT.out bS.out) bB.out)
 have hZ:=hJ (BX.new bQ.out cP.out)
 obtain ⟨iA,iB,iC,iD,iE,iF,iG,iH⟩:=hZ.out.q8 0 1 2 3 4 5 6 7
 obtain ⟨iI,iJ,iK,iL,iM,iN,iO,iP⟩:=hY.out.q8 0 1 2 3 4 5 6 7
 have iQ:=hJ (PF.new cJ.out cP.out)
 have iR:=hJ (PF.new cK.out cP.out)
 have iS:=hJ (PF.new hW.out bB.out)
 have iT:=hJ (PF.new hX.out bB.out)
 go_wp2_with fail
 clear cO iA iB iC iD iE iF iG iH iI iJ iK iL iM iN iO iP
 refine (ptcompare_any p q u v p q u v s12 A12 n12 c12 t12 B12 m12 d12 s13 A13 n13 c13 t13 B13 m13 d13 s14 A14 n14 c14 t14 B14 m14 d14 s15 A15 n15 c15 t15 B15 m15 d15 x30 iQ.out iR.out iS.out iT.out ⟨⟨aA.out.1.1.1.1,aA.out.1.1.2.1,aA.out.1.1.2.2⟩,⟨aA.out.1.2.1.1,aA.out.1.2.2.1,aA.out.1.2.2.2⟩,⟨aA.out.1.1.1.1,aA.out.1.1.2.1,aA.out.1.1.2.2⟩,⟨aA.out.1.2.1.1,aA.out.1.2.2.1,aA.out.1.2.2.2⟩⟩).mono ?_
 rw [pc_self]
 rintro e w47 ⟨rfl,hb⟩
 have cQ:=hJ hb
 clear hb
 have eL:=hJ (bt (bt bS.out bB.out) cQ.out)
 have iU:=hJ (show WrA w47 w12.heap.size aw28 eb from WrA.new hU.out eL.out)
 go_wp2_with fail
 refine (wdone_any w12.heap.size eb w47 iU.out.wr (by have:=aG.out; have:=aB.out; omega)).mono ?_
 rintro e w49 ⟨ad,kd,rfl,hown,hb⟩
 rw [bI_len,aG.out] at hown ⊢
 have iV:=hJ (show In .u8 w49 (w47.heap.size ≤ ·) (.slice ad nb kd) (bI eb) from In.own hown)
 have cR:=hJ hb
 clear hown hb
 have iW:=hJ (bt eL.out cR.out)
 have eM:=hJ (In.new eK.out iW.out)
 go_wp2_with fail
 refine (sameBytes_any (bI eb) (bI eb) ab ad nb nb kb kd w49.heap.size w49.heap.size true w49 (by rw [bI_len]; exact aG.out.symm) (by rw [bI_len]; exact aG.out.symm) (by have:=aB.out; omega) (by have:=aB.out; omega) (eM.out).rd (iV.out).rd (Nat.le_refl _) (Nat.le_refl _) (by simp)).mono ?_
 rintro e w50 ⟨rfl,hb⟩
 have cS:=hJ hb
 clear hb
 have eN:=hJ (In.new eM.out cS.out)
 go_wp2_with fail
 clear hnb0 hnb2 hnb3
 refine (few_any _ (bI eb) nb w50 eN.out.src (by rw [bI_len,aG.out]; unfold maxLen; have:=aB.out; omega) (by have:=aB.out; omega)).mono ?_
 rw [List.take_of_length_le (by rw [bI_len,aG.out]; exact Nat.le_refl _)]
 rintro e w51 ⟨ax,kx,rfl,hown,hb⟩
 rw [bI_len,aG.out] at hown ⊢
 have eO:=hJ hown
 have eP:=hJ hb
 clear hown hb
 obtain ⟨gx,kx2,hxe,hxb,hxl,hxc,_⟩:=(own_any eO.out).row (show 0 < nb by have:=aB.out; omega)
 obtain ⟨eQ,eR⟩:ax=some ⟨gx,0,none⟩∧kx=kx2:=by injection hxe with e1 e2 e3; exact ⟨e1,e3⟩
 have hox:=own_any eO.out
 rw [eQ,eR] at hox
 have cT:=hJ (show OwnR anyV w51 w50.heap.size 5 1 (.slice (some ⟨gx,0,none⟩) nb kx2) nb (vs .u8 (bI eb)) from hox)
 have eS:=hJ hxb
 subst eQ eR
 clear hxe hxb hxl hxc hox
 obtain ⟨kk,hkk⟩:∃ j:Nat,aroundZ at0 (nb:Int)=(j:Int):=⟨(aroundZ at0 nb).toNat,by have:=aroundZ_in at0 (n:=(nb:Int)) (by have:=aB.out; omega); omega⟩
 have eT:=hJ (show kk < nb by have:=aroundZ_in at0 (n:=(nb:Int)) (by have:=aB.out; omega); omega)
 have iX:=hJ hkk
 obtain ⟨bk,hbk⟩:=vs_at (l:=eb) (k:=kk) (by rw [aG.out]; exact eT.out)
 have iY:=hJ hbk
 have hk0:(0:Int)≤(kk:Int):=by omega
 have hk1:(kk:Int) < (nb:Int):=by have:=eT.out; omega
 have hn1:(1:Int)≤(nb:Int):=by have:=aB.out; omega
 clear hkk hbk
 go_wp2_with fail
 refine (aroundz_any at0 (nb:Int) w51 (by have:=aB.out; omega) (by have:=aB.out; omega) fW.out).mono ?_
 rw [iX.out]
 rintro e w52 ⟨rfl,rfl⟩
 have iZ:=OwnR.frz cT.out kk
 have jA:=cT.out.at kk iY.out
 obtain ⟨x53,eU⟩:=nmz (World.setCell w51 ⟨gx,kk,none⟩ (.int .u8 (cb.toNat:Int)))
 have cU:=hJ (show sto w51 gx kk [.int .u8 (cb.toNat:Int)]=x53 from eU)
 obtain ⟨T1,ht1⟩:∃ t,eb.set kk cb=t:=⟨_,rfl⟩
 have bF:=hJ (show T1.length=nb by rw [←ht1,List.length_set]; exact aG.out)
 have jB:=hJ (show OwnR anyV x53 w50.heap.size 5 1 (.slice (some ⟨gx,0,none⟩) nb kx) nb (vs .u8 (bI T1)) by rw [←cU.out,←ht1,←vs_setb]; exact OwnR.put1 cT.out kk _ rfl)
 have jC:=hJ (in_of jB.out)
 clear ht1
 have jD:=hJ (show Below w50.heap.size w50 x53 by rw [←cU.out]; exact below_sto eP.out eS.out _ _)
 have cV:=hJ (In.new eN.out jD.out)
 obtain ⟨T0,ht0⟩:∃ t,rl.take 20=t:=⟨_,rfl⟩
 obtain ⟨n0,hn0⟩:∃ t,T0.length=t:=⟨_,rfl⟩
 have eV:=hJ ht0
 have aU:=hJ hn0
 have bT:=hJ (show n0≤20 by rw [←hn0,←ht0,List.length_take]; omega)
 obtain ⟨nm,hnm⟩:∃ t:Nat,nb - 1=t:=⟨_,rfl⟩
 have eW:=hJ (show IntKind.i64.wrap ((nb:Int) - 1)=(nm:Int) by rw [show (nb:Int) - 1=(nm:Int) by have:=aB.out; omega]; exact IntWalk.i64_in _ (by have:=aB.out; omega))
 have bC:=hJ (show nm < nb∧nm≤62 by have:=aB.out; omega)
 obtain ⟨aq,hslc,hit⟩:=In.to_ (P:=Tryz.prog) (ty:=22) (e:=5) Tryz.underlying22 size_byte cV.out nm (by have:=bC.out; omega)
 rw [bI_takeb] at hit
 obtain ⟨T2,ht2⟩:∃ t,eb.take nm=t:=⟨_,rfl⟩
 rw [ht2] at hit
 have bG:=hJ (show T2.length=nm by rw [←ht2,List.length_take,aG.out]; have:=bC.out; omega)
 have jE:=hJ hit
 obtain ⟨T3,ht3⟩:∃ t,eb ++ [cb]=t:=⟨_,rfl⟩
 have jF:=hJ ht3
 have bH:=hJ (show T3.length=nb+1 by rw [←ht3,List.length_append,aG.out]; rfl)
 have hewn:=eW.out
 clear ht0 hn0 hnm hit ht2 ht3
 obtain ⟨i5,hi5,hz5,hs5,hy5⟩:=info_parts (show (Tryz.prog.info? 5).map (fun i=>(i.zero,i.size,i.bytes))=some (some (.int .u8 0),1,1) by kernel_rfl)
 have bU:=hJ (And.intro hi5 (And.intro hz5 (And.intro hs5 hy5)))
 clear hi5 hz5 hs5 hy5
 have aK:Hid (∀ w',Below x53.heap.size x53 w'→(fun w':World=>Below x53.heap.size x53 w') w'):=hJ (fun w' hb=>hb)
 have jG:=hJ (bt (bt (bt (bt (bt eJ.out bS.out) bB.out) cQ.out) cR.out) cS.out)
 have eX:=hJ (show Below w.heap.size w x53 by rw [←cU.out]; exact below_sto (bt (bt (bt (bt (bt (bt eJ.out bS.out) bB.out) cQ.out) cR.out) cS.out) eP.out) (Nat.le_trans (jG.out).size eS.out) _ _)
 have eY:=hJ (src_belowJ fX.out eX.out)
 go_wp2_with fail
 clear iZ jA eU hk0 hk1 hn1
 obtain ⟨v54,hv54⟩:=nmz (World.drew x53)
 have bV:=hJ (show Below x53.heap.size x53 v54 by rw [←hv54]; exact (Below.refl _ _).drew)
 refine whd aK hv54 (fun hHeld=>?_)
 clear hv54
 refine tq 0 ?_
 refine tq 2 ?_
 refine tq 3 ?_
 refine tq 4 ?_
 refine tq 5 ?_
 try simp only [PT]
 refine tk 6 (.int .i64 (nm:Int)) ?_ ?_
 ·intro w hSw
  (try dsimp only at hSw)
  go_simp
  all_goals (first | rw [eW.out] | rfl)
 try simp only [PT]
 refine tk 7 (.slice aq nm kb) ?_ ?_
 ·intro w hSw
  (try dsimp only at hSw)
  go_simp
  all_goals (first | exact hslc _ | rw [hslc] | rfl)
 refine tq 8 ?_
 refine tq 9 ?_
 refine tq 10 ?_
 refine tq 12 ?_
 try simp only [PT]
 refine wpAnyH_name (fun F hF a0 ha0 L0 hL0=>?_)
 have bW:∀ (af:Option Addr) (kf:Nat) (ae:Option Addr) (ke:Nat) (aD:Nat) (v:World),Hid (Below x53.heap.size x53 v)→Hid (In .u8 v (fun _=>True) (.slice af n0 kf) (bI T0))→Hid (OB2 x53.heap.size v (.slice ae nb ke) nb eb (.slice af n0 kf) T0)→Hid (BX 5 v aD #[.int .u8 (cb.toNat:Int)])→Hid (x53.heap.size≤aD)→F 3 (Array.setIfInBounds (Array.setIfInBounds (Array.setIfInBounds L0 1 true) 11 true) 13 true) (Act.put (Act.put (Act.put a0 (some 75) (.slice af n0 kf)) (some 85) (.slice ae nb ke)) (some 87) (.slice (some ⟨aD,0,none⟩) 1 1)) v:=by
  intro af kf ae ke aD v aF aN cW bJ bX
  subst hF ha0 hL0
  simp only [PT] at  ⊢
  have hHeld:=aK.out _ aF.out
  refine ryy [14] ?_
  refine .cons rfl (fun K hK=>?_) .nil
  obtain ⟨B55,hB1,hB2,hO,hI⟩:=cW.out
  refine step_append_okv anyV rfl _ _ 22 rfl B55 5 i5 _ 1 1 Tryz.underlying22 bU.out.1 bU.out.2.1 bU.out.2.2.1 bU.out.2.2.2 rfl rfl (by decide) (.slice ae nb ke) nb (vs .u8 (bI eb)) rfl hO ⟨aD,0,none⟩ 1 1 [.int .u8 (cb.toNat:Int)] rfl rfl (BX.news bJ.out) (List.all_eq_true (p:=Value.oneCell')|>.1 rfl) rfl (by unfold maxLen; have:=aB.out; omega) (by have:=aB.out; omega) hB2 (by decide) ?_
  intro va wa hown hgrow
  have hown:OwnR anyV wa B55 5 1 va (nb+1) (vs .u8 (bI T3)):=by
   have h0:=hown
   rw [vs_snocb,jF.out] at h0
   exact h0
  obtain ⟨aV,aW,rfl,_,_,_,_⟩:=hown.row (by omega)
  obtain ⟨v55,rfl⟩:∃ W,W=wa:=⟨_,rfl⟩
  have eZ:=hJ (show Below x53.heap.size x53 v55 from Grew.below aF.out hgrow hO hB1 (aF.out).size)
  have jH:=hJ (show In .u8 v55 (fun _=>True) (.slice (some ⟨aV,0,none⟩) (nb+1) aW) (bI T3) from (in_of hown).mono (fun _ _ _=>trivial))
  have jI:=hJ (show In .u8 v55 (fun _=>True) (.slice af n0 kf) (bI T0) from (in_grow hI hgrow hO).mono (fun _ _ _=>trivial))
  clear hown hgrow hO hI hB1 hB2
  clear hHeld
  refine hK.out _ _ (eZ.out) (fun hHeld=>?_)
  clear hK K
  try simp only [PT]
  refine ryy [15] ?_
  refine .cons rfl (fun K hK=>?_) .nil
  go_simp
  have bY:=hJ ((Below.refl v55.heap.size v55).alloc (Nat.le_refl _) (.cells #[.slice af n0 kf,.slice (some ⟨gx,0,none⟩) nb kx,.slice aq nm kb,.slice (some ⟨aV,0,none⟩) (nb+1) aW] 22))
  have bD:=hJ (BX.lit v55 22 #[.slice af n0 kf,.slice (some ⟨gx,0,none⟩) nb kx,.slice aq nm kb,.slice (some ⟨aV,0,none⟩) (nb+1) aW])
  obtain ⟨v56,hV⟩:=nmz (World.alloc v55 (.cells #[.slice af n0 kf,.slice (some ⟨gx,0,none⟩) nb kx,.slice aq nm kb,.slice (some ⟨aV,0,none⟩) (nb+1) aW] 22))
  obtain ⟨bZ,hg⟩:=nmz (v55.heap.size)
  rw [hV] at bY bD ⊢
  rw [hg] at bD ⊢
  clear hV hg
  have cA:=hJ (bt eZ.out bY.out)
  have jJ:=hJ (In.new jI.out bY.out)
  have jK:=hJ (In.new jH.out bY.out)
  clear hHeld
  refine hK.out _ _ (aK.out _ cA.out) (fun hHeld=>?_)
  clear hK K
  refine tq 16 ?_
  try simp only [PT]
  refine wpAnyH_done (by kernel_rfl) ?_ _
  clear hHeld
  go_wp2_with fail
  go_loopw [16] (fun tv wr=>∃ i:Nat,i≤4∧tv=.int .i64 (i:Int)∧Below v56.heap.size v56 wr) (fun tv _=>4 - (intOf tv).toNat)
  case atStart=>exact ⟨0,by omega,rfl,Below.refl _ _⟩
  case round =>
   obtain ⟨i58,hi,rfl,hbel⟩:=hrel
   obtain ⟨wl58,rfl⟩:∃ W:World,W=wr:=⟨_,rfl⟩
   have aH:=hJ hbel
   clear hbel
   have hcs:i58=0∨i58=1∨i58=2∨i58=3∨i58=4:=by omega
   clear hi
   rcases hcs with rfl | rfl | rfl | rfl | rfl
   ·(try rw [show ((0:Nat):Int)=0 from rfl])
    have aL:=hJ (BX.new bD.out aH.out)
    have jL:=aL.out.cell 0 rfl
    obtain ⟨dp,hdp⟩:=nmz (dcP1 T0)
    obtain ⟨dq,hdq⟩:=nmz (dcQ1 T0)
    obtain ⟨du,hdu⟩:=nmz (dcP2 T0)
    obtain ⟨dv,hdv⟩:=nmz (dcQ2 T0)
    obtain ⟨dc,hdc⟩:=nmz (dcE T0)
    have HD:=hJ (And.intro (And.intro hdp hdq) (And.intro hdu (And.intro hdv hdc)))
    have aC:=hJ (show Fr dp dq∧Fr du dv by rw [←hdp,←hdq,←hdu,←hdv]; exact dc_fr T0)
    have aX:=hJ (show dc=0∨dc=2 by rw [←hdc]; exact dcE_02 T0)
    have aY:=hJ (show dc=0→encP dp dq du dv=T0∧(fracT dp dq).length≤T0.length∧(fracT du dv).length≤T0.length by rw [←hdc,←hdp,←hdq,←hdu,←hdv]; exact fun h=>enc_dec h)
    clear hdp hdq hdu hdv hdc
    have fA:=hJ (In.new jJ.out aH.out)
    go_wp2_with fail
    clear jL
    refine (decode_any T0 af n0 kf _ wl58 fA.out aU.out (by have:=bT.out; omega)).mono ?_
    rw [HD.out.1.1,HD.out.1.2,HD.out.2.1,HD.out.2.2.1,HD.out.2.2.2]
    rintro e w60 ⟨s16,A16,n16,c16,t16,B16,m16,d16,s17,A17,n17,c17,t17,B17,m17,d17,rfl,hr16,hr17,hb⟩
    have cX:=hJ hb
    have jM:=hJ hr16
    have jN:=hJ hr17
    clear hb hr16 hr17
    obtain ⟨x61,cB⟩:=nmz (w60.alloc (.cells #[.bool s16,.slice A16 n16 c16,.bool t16,.slice B16 m16 d16,.bool s17,.slice A17 n17 c17,.bool t17,.slice B17 m17 d17] 29))
    have bK:=hJ (show Below w60.heap.size w60 x61 by rw [←cB]; exact ((Below.refl _ _).alloc (Nat.le_refl _) _))
    have aO:=hJ (show BX 29 x61 w60.heap.size #[.bool s16,.slice A16 n16 c16,.bool t16,.slice B16 m16 d16,.bool s17,.slice A17 n17 c17,.bool t17,.slice B17 m17 d17] by rw [←cB]; exact (BX.at rfl))
    rcases aX.out with hc | hc
    ·obtain rfl:=hc
     have aI:=hJ (aY.out rfl)
     have aM:=hJ (bt cX.out bK.out)
     have aZ:=hJ (BX.new aL.out aM.out)
     have cY:Hid (∀ w',Below x61.heap.size x61 w'→(fun w':World=>w'.cell? ⟨w60.heap.size,0,none⟩=some (.bool s16)∧w'.cell? ⟨w60.heap.size,1,none⟩=some (.slice A16 n16 c16)∧w'.cell? ⟨w60.heap.size,2,none⟩=some (.bool t16)∧w'.cell? ⟨w60.heap.size,3,none⟩=some (.slice B16 m16 d16)∧w'.cell? ⟨w60.heap.size,4,none⟩=some (.bool s17)∧w'.cell? ⟨w60.heap.size,5,none⟩=some (.slice A17 n17 c17)∧w'.cell? ⟨w60.heap.size,6,none⟩=some (.bool t17)∧w'.cell? ⟨w60.heap.size,7,none⟩=some (.slice B17 m17 d17)∧w'.cell? ⟨bZ,0,none⟩=some (.slice af n0 kf)∧Below x61.heap.size x61 w') w'):=hJ (fun w' hb=>⟨(BX.new aO.out hb).cell 0 rfl,(BX.new aO.out hb).cell 1 rfl,(BX.new aO.out hb).cell 2 rfl,(BX.new aO.out hb).cell 3 rfl,(BX.new aO.out hb).cell 4 rfl,(BX.new aO.out hb).cell 5 rfl,(BX.new aO.out hb).cell 6 rfl,(BX.new aO.out hb).cell 7 rfl,(BX.new aZ.out hb).cell 0 rfl,hb⟩)
     have jO:=hJ (PF.new jM.out bK.out)
     have jP:=hJ (PF.new jN.out bK.out)
     have jQ:=hJ (In.new fA.out aM.out)
     go_wp2_with fail
     clear cB
     obtain ⟨v62,hv62⟩:=nmz (World.drew x61)
     have cZ:=hJ (show Below x61.heap.size x61 v62 by rw [←hv62]; exact (Below.refl _ _).drew)
     refine whd cY hv62 (fun hHeld=>?_)
     clear hv62
     refine tq 0 ?_
     refine tq 1 ?_
     refine tq 2 ?_
     try simp only [PT]
     refine wpAnyH_take (i:=3) (v:=undef) rfl (by kernel_rfl) (by kernel_rfl) (by kernel_rfl) (fun _ _ _ h=>h) (Or.inr ⟨by kernel_rfl,rfl⟩) (by assumption) ?_
     try simp only [PT]
     refine wpAnyH_take (i:=4) (v:=undef) rfl (by kernel_rfl) (by kernel_rfl) (by kernel_rfl) (fun _ _ _ h=>h) (Or.inr ⟨by kernel_rfl,rfl⟩) (by assumption) ?_
     refine tq 5 ?_
     refine tq 6 ?_
     refine tq 7 ?_
     refine tq 8 ?_
     refine tq 9 ?_
     refine tq 10 ?_
     refine tq 12 ?_
     refine tq 13 ?_
     refine tq 14 ?_
     refine tq 15 ?_
     try simp only [PT]
     refine ryy [11] ?_
     refine .cons rfl (fun K hK=>?_) .nil
     go_simp
     go_at_call 8
     refine (encb_any dp dq du dv T0 n0 s16 A16 n16 c16 t16 B16 m16 d16 s17 A17 n17 c17 t17 B17 m17 d17 v62 (PF.new jO.out cZ.out) (PF.new jP.out cZ.out) ⟨⟨aC.out.1.1.1,aC.out.1.2.1,aC.out.1.2.2⟩,⟨aC.out.2.1.1,aC.out.2.2.1,aC.out.2.2.2⟩⟩ (by have h1:=aI.out.2.1; have h2:=aI.out.2.2; have h3:=aU.out; have:n0≤63:=(by have:=bT.out; omega); omega) aI.out.1 aU.out).mono ?_
     rintro e v63 ⟨ag,kg,rfl,hig,hb⟩
     have jR:=hJ hb
     have jS:=hJ hig
     clear hb hig
     go_wp2_with fail
     have dA:=hJ (bt cZ.out jR.out)
     clear hHeld
     refine hK.out _ _ (cY.out _ dA.out) (fun hHeld=>?_)
     clear hK K
     try simp only [PT]
     refine ryy [16] ?_
     refine .cons rfl (fun K hK=>?_) .nil
     go_simp
     go_at_call 13
     refine (sameBytes_any (bI T0) (bI T0) ag af n0 n0 kg kf v63.heap.size v63.heap.size true v63 (by rw [bI_len]; exact aU.out.symm) (by rw [bI_len]; exact aU.out.symm) (by have:=bT.out; omega) (by have:=bT.out; omega) (jS.out).rd ((In.new jQ.out dA.out)).rd (Nat.le_refl _) (Nat.le_refl _) (by simp)).mono ?_
     rintro e v64 ⟨rfl,hb⟩
     have jT:=hJ hb
     clear hb
     go_wp2_with fail
     have fB:=hJ (bt dA.out jT.out)
     clear hHeld
     refine hK.out _ _ (cY.out _ fB.out) (fun hHeld=>?_)
     clear hK K
     refine tq 17 ?_
     refine tq 18 ?_
     refine tq 19 ?_
     try simp only [PT]
     refine wpAnyH_done (by kernel_rfl) ?_ _
     clear hHeld
     have aJ:=hJ (bt (bt (bt aH.out cX.out) bK.out) fB.out)
     go_wp2_with fail
     go_roundw
     case rel=>exact ⟨0+1,by omega,by go_num,aJ.out⟩
     case measure=>simp [intOf] <;> omega
    obtain rfl:=hc
    have jU:Hid (∀ w',Below x61.heap.size x61 w'→(fun w':World=>Below x61.heap.size x61 w') w'):=hJ (fun w' hb=>hb)
    go_wp2_with fail
    clear cB
    obtain ⟨v65,hv65⟩:=nmz (World.drew x61)
    have jV:=hJ (show Below x61.heap.size x61 v65 by rw [←hv65]; exact (Below.refl _ _).drew)
    refine whd jU hv65 (fun hHeld=>?_)
    clear hv65
    refine tq 0 ?_
    refine tq 1 ?_
    refine tq 2 ?_
    refine tq 3 ?_
    refine tq 4 ?_
    refine tq 5 ?_
    refine tq 6 ?_
    refine tq 7 ?_
    refine tq 8 ?_
    refine tq 9 ?_
    try simp only [PT]
    refine wpAnyH_take (i:=10) (v:=undef) rfl (by kernel_rfl) (by kernel_rfl) (by kernel_rfl) (fun _ _ _ h=>h) (Or.inr ⟨by kernel_rfl,rfl⟩) (by assumption) ?_
    try simp only [PT]
    refine wpAnyH_take (i:=11) (v:=undef) rfl (by kernel_rfl) (by kernel_rfl) (by kernel_rfl) (fun _ _ _ h=>h) (Or.inr ⟨by kernel_rfl,rfl⟩) (by assumption) ?_
    try simp only [PT]
    refine wpAnyH_take (i:=12) (v:=undef) rfl (by kernel_rfl) (by kernel_rfl) (by kernel_rfl) (fun _ _ _ h=>h) (Or.inr ⟨by kernel_rfl,rfl⟩) (by assumption) ?_
    try simp only [PT]
    refine wpAnyH_take (i:=13) (v:=undef) rfl (by kernel_rfl) (by kernel_rfl) (by kernel_rfl) (fun _ _ _ h=>h) (Or.inr ⟨by kernel_rfl,rfl⟩) (by assumption) ?_
    try simp only [PT]
    refine wpAnyH_take (i:=14) (v:=undef) rfl (by kernel_rfl) (by kernel_rfl) (by kernel_rfl) (fun _ _ _ h=>h) (Or.inr ⟨by kernel_rfl,rfl⟩) (by assumption) ?_
    try simp only [PT]
    refine wpAnyH_take (i:=15) (v:=undef) rfl (by kernel_rfl) (by kernel_rfl) (by kernel_rfl) (fun _ _ _ h=>h) (Or.inr ⟨by kernel_rfl,rfl⟩) (by assumption) ?_
    try simp only [PT]
    refine wpAnyH_take (i:=16) (v:=undef) rfl (by kernel_rfl) (by kernel_rfl) (by kernel_rfl) (fun _ _ _ h=>h) (Or.inr ⟨by kernel_rfl,rfl⟩) (by assumption) ?_
    try simp only [PT]
    refine wpAnyH_take (i:=17) (v:=undef) rfl (by kernel_rfl) (by kernel_rfl) (by kernel_rfl) (fun _ _ _ h=>h) (Or.inr ⟨by kernel_rfl,rfl⟩) (by assumption) ?_
    refine tq 18 ?_
    refine tq 19 ?_
    try simp only [PT]
    refine wpAnyH_done (by kernel_rfl) ?_ _
    clear hHeld
    have aJ:=hJ (bt (bt (bt aH.out cX.out) bK.out) jV.out)
    go_wp2_with fail
    go_roundw
    case rel=>exact ⟨0+1,by omega,by go_num,aJ.out⟩
    case measure=>simp [intOf] <;> omega
   ·(try rw [show ((1:Nat):Int)=1 from rfl])
    have aL:=hJ (BX.new bD.out aH.out)
    have jW:=aL.out.cell 1 rfl
    obtain ⟨dp,hdp⟩:=nmz (dcP1 T1)
    obtain ⟨dq,hdq⟩:=nmz (dcQ1 T1)
    obtain ⟨du,hdu⟩:=nmz (dcP2 T1)
    obtain ⟨dv,hdv⟩:=nmz (dcQ2 T1)
    obtain ⟨dc,hdc⟩:=nmz (dcE T1)
    have HD:=hJ (And.intro (And.intro hdp hdq) (And.intro hdu (And.intro hdv hdc)))
    have aC:=hJ (show Fr dp dq∧Fr du dv by rw [←hdp,←hdq,←hdu,←hdv]; exact dc_fr T1)
    have aX:=hJ (show dc=0∨dc=2 by rw [←hdc]; exact dcE_02 T1)
    have aY:=hJ (show dc=0→encP dp dq du dv=T1∧(fracT dp dq).length≤T1.length∧(fracT du dv).length≤T1.length by rw [←hdc,←hdp,←hdq,←hdu,←hdv]; exact fun h=>enc_dec h)
    clear hdp hdq hdu hdv hdc
    have dB:=hJ (bt cA.out aH.out)
    have fC:=hJ (In.new jC.out dB.out)
    go_wp2_with fail
    clear jW
    refine (decode_any T1 (some ⟨gx,0,none⟩) nb kx _ wl58 fC.out bF.out (by have:=aB.out; omega)).mono ?_
    rw [HD.out.1.1,HD.out.1.2,HD.out.2.1,HD.out.2.2.1,HD.out.2.2.2]
    rintro e w67 ⟨s18,A18,n18,c18,t18,B18,m18,d18,s19,A19,n19,c19,t19,B19,m19,d19,rfl,hr18,hr19,hb⟩
    have dD:=hJ hb
    have jX:=hJ hr18
    have jY:=hJ hr19
    clear hb hr18 hr19
    obtain ⟨x68,cC⟩:=nmz (w67.alloc (.cells #[.bool s18,.slice A18 n18 c18,.bool t18,.slice B18 m18 d18,.bool s19,.slice A19 n19 c19,.bool t19,.slice B19 m19 d19] 29))
    have bL:=hJ (show Below w67.heap.size w67 x68 by rw [←cC]; exact ((Below.refl _ _).alloc (Nat.le_refl _) _))
    have aR:=hJ (show BX 29 x68 w67.heap.size #[.bool s18,.slice A18 n18 c18,.bool t18,.slice B18 m18 d18,.bool s19,.slice A19 n19 c19,.bool t19,.slice B19 m19 d19] by rw [←cC]; exact (BX.at rfl))
    rcases aX.out with hc | hc
    ·obtain rfl:=hc
     have aI:=hJ (aY.out rfl)
     have aM:=hJ (bt dD.out bL.out)
     have aZ:=hJ (BX.new aL.out aM.out)
     have dE:Hid (∀ w',Below x68.heap.size x68 w'→(fun w':World=>w'.cell? ⟨w67.heap.size,0,none⟩=some (.bool s18)∧w'.cell? ⟨w67.heap.size,1,none⟩=some (.slice A18 n18 c18)∧w'.cell? ⟨w67.heap.size,2,none⟩=some (.bool t18)∧w'.cell? ⟨w67.heap.size,3,none⟩=some (.slice B18 m18 d18)∧w'.cell? ⟨w67.heap.size,4,none⟩=some (.bool s19)∧w'.cell? ⟨w67.heap.size,5,none⟩=some (.slice A19 n19 c19)∧w'.cell? ⟨w67.heap.size,6,none⟩=some (.bool t19)∧w'.cell? ⟨w67.heap.size,7,none⟩=some (.slice B19 m19 d19)∧w'.cell? ⟨bZ,1,none⟩=some (.slice (some ⟨gx,0,none⟩) nb kx)∧Below x68.heap.size x68 w') w'):=hJ (fun w' hb=>⟨(BX.new aR.out hb).cell 0 rfl,(BX.new aR.out hb).cell 1 rfl,(BX.new aR.out hb).cell 2 rfl,(BX.new aR.out hb).cell 3 rfl,(BX.new aR.out hb).cell 4 rfl,(BX.new aR.out hb).cell 5 rfl,(BX.new aR.out hb).cell 6 rfl,(BX.new aR.out hb).cell 7 rfl,(BX.new aZ.out hb).cell 1 rfl,hb⟩)
     have jZ:=hJ (PF.new jX.out bL.out)
     have kA:=hJ (PF.new jY.out bL.out)
     have kB:=hJ (In.new fC.out aM.out)
     go_wp2_with fail
     clear cC
     obtain ⟨v69,hv69⟩:=nmz (World.drew x68)
     have dF:=hJ (show Below x68.heap.size x68 v69 by rw [←hv69]; exact (Below.refl _ _).drew)
     refine whd dE hv69 (fun hHeld=>?_)
     clear hv69
     refine tq 0 ?_
     refine tq 1 ?_
     refine tq 2 ?_
     try simp only [PT]
     refine wpAnyH_take (i:=3) (v:=undef) rfl (by kernel_rfl) (by kernel_rfl) (by kernel_rfl) (fun _ _ _ h=>h) (Or.inr ⟨by kernel_rfl,rfl⟩) (by assumption) ?_
     try simp only [PT]
     refine wpAnyH_take (i:=4) (v:=undef) rfl (by kernel_rfl) (by kernel_rfl) (by kernel_rfl) (fun _ _ _ h=>h) (Or.inr ⟨by kernel_rfl,rfl⟩) (by assumption) ?_
     refine tq 5 ?_
     refine tq 6 ?_
     refine tq 7 ?_
     refine tq 8 ?_
     refine tq 9 ?_
     refine tq 10 ?_
     refine tq 12 ?_
     refine tq 13 ?_
     refine tq 14 ?_
     refine tq 15 ?_
     try simp only [PT]
     refine ryy [11] ?_
     refine .cons rfl (fun K hK=>?_) .nil
     go_simp
     go_at_call 8
     refine (encb_any dp dq du dv T1 nb s18 A18 n18 c18 t18 B18 m18 d18 s19 A19 n19 c19 t19 B19 m19 d19 v69 (PF.new jZ.out dF.out) (PF.new kA.out dF.out) ⟨⟨aC.out.1.1.1,aC.out.1.2.1,aC.out.1.2.2⟩,⟨aC.out.2.1.1,aC.out.2.2.1,aC.out.2.2.2⟩⟩ (by have h1:=aI.out.2.1; have h2:=aI.out.2.2; have h3:=bF.out; have:nb≤63:=(by have:=aB.out; omega); omega) aI.out.1 bF.out).mono ?_
     rintro e v70 ⟨ag,kg,rfl,hig,hb⟩
     have kC:=hJ hb
     have kD:=hJ hig
     clear hb hig
     go_wp2_with fail
     have dG:=hJ (bt dF.out kC.out)
     clear hHeld
     refine hK.out _ _ (dE.out _ dG.out) (fun hHeld=>?_)
     clear hK K
     try simp only [PT]
     refine ryy [16] ?_
     refine .cons rfl (fun K hK=>?_) .nil
     go_simp
     go_at_call 13
     refine (sameBytes_any (bI T1) (bI T1) ag (some ⟨gx,0,none⟩) nb nb kg kx v70.heap.size v70.heap.size true v70 (by rw [bI_len]; exact bF.out.symm) (by rw [bI_len]; exact bF.out.symm) (by have:=aB.out; omega) (by have:=aB.out; omega) (kD.out).rd ((In.new kB.out dG.out)).rd (Nat.le_refl _) (Nat.le_refl _) (by simp)).mono ?_
     rintro e v71 ⟨rfl,hb⟩
     have kE:=hJ hb
     clear hb
     go_wp2_with fail
     have fD:=hJ (bt dG.out kE.out)
     clear hHeld
     refine hK.out _ _ (dE.out _ fD.out) (fun hHeld=>?_)
     clear hK K
     refine tq 17 ?_
     refine tq 18 ?_
     refine tq 19 ?_
     try simp only [PT]
     refine wpAnyH_done (by kernel_rfl) ?_ _
     clear hHeld
     have aJ:=hJ (bt (bt (bt aH.out dD.out) bL.out) fD.out)
     go_wp2_with fail
     go_roundw
     case rel=>exact ⟨1+1,by omega,by go_num,aJ.out⟩
     case measure=>simp [intOf] <;> omega
    obtain rfl:=hc
    have kF:Hid (∀ w',Below x68.heap.size x68 w'→(fun w':World=>Below x68.heap.size x68 w') w'):=hJ (fun w' hb=>hb)
    go_wp2_with fail
    clear cC
    obtain ⟨v72,hv72⟩:=nmz (World.drew x68)
    have kG:=hJ (show Below x68.heap.size x68 v72 by rw [←hv72]; exact (Below.refl _ _).drew)
    refine whd kF hv72 (fun hHeld=>?_)
    clear hv72
    refine tq 0 ?_
    refine tq 1 ?_
    refine tq 2 ?_
    refine tq 3 ?_
    refine tq 4 ?_
    refine tq 5 ?_
    refine tq 6 ?_
    refine tq 7 ?_
    refine tq 8 ?_
    refine tq 9 ?_
    try simp only [PT]
    refine wpAnyH_take (i:=10) (v:=undef) rfl (by kernel_rfl) (by kernel_rfl) (by kernel_rfl) (fun _ _ _ h=>h) (Or.inr ⟨by kernel_rfl,rfl⟩) (by assumption) ?_
    try simp only [PT]
    refine wpAnyH_take (i:=11) (v:=undef) rfl (by kernel_rfl) (by kernel_rfl) (by kernel_rfl) (fun _ _ _ h=>h) (Or.inr ⟨by kernel_rfl,rfl⟩) (by assumption) ?_
    try simp only [PT]
    refine wpAnyH_take (i:=12) (v:=undef) rfl (by kernel_rfl) (by kernel_rfl) (by kernel_rfl) (fun _ _ _ h=>h) (Or.inr ⟨by kernel_rfl,rfl⟩) (by assumption) ?_
    try simp only [PT]
    refine wpAnyH_take (i:=13) (v:=undef) rfl (by kernel_rfl) (by kernel_rfl) (by kernel_rfl) (fun _ _ _ h=>h) (Or.inr ⟨by kernel_rfl,rfl⟩) (by assumption) ?_
    try simp only [PT]
    refine wpAnyH_take (i:=14) (v:=undef) rfl (by kernel_rfl) (by kernel_rfl) (by kernel_rfl) (fun _ _ _ h=>h) (Or.inr ⟨by kernel_rfl,rfl⟩) (by assumption) ?_
    try simp only [PT]
    refine wpAnyH_take (i:=15) (v:=undef) rfl (by kernel_rfl) (by kernel_rfl) (by kernel_rfl) (fun _ _ _ h=>h) (Or.inr ⟨by kernel_rfl,rfl⟩) (by assumption) ?_
    try simp only [PT]
    refine wpAnyH_take (i:=16) (v:=undef) rfl (by kernel_rfl) (by kernel_rfl) (by kernel_rfl) (fun _ _ _ h=>h) (Or.inr ⟨by kernel_rfl,rfl⟩) (by assumption) ?_
    try simp only [PT]
    refine wpAnyH_take (i:=17) (v:=undef) rfl (by kernel_rfl) (by kernel_rfl) (by kernel_rfl) (fun _ _ _ h=>h) (Or.inr ⟨by kernel_rfl,rfl⟩) (by assumption) ?_
    refine tq 18 ?_
    refine tq 19 ?_
    try simp only [PT]
    refine wpAnyH_done (by kernel_rfl) ?_ _
    clear hHeld
    have aJ:=hJ (bt (bt (bt aH.out dD.out) bL.out) kG.out)
    go_wp2_with fail
    go_roundw
    case rel=>exact ⟨1+1,by omega,by go_num,aJ.out⟩
    case measure=>simp [intOf] <;> omega
   ·(try rw [show ((2:Nat):Int)=2 from rfl])
    have aL:=hJ (BX.new bD.out aH.out)
    have kH:=aL.out.cell 2 rfl
    obtain ⟨dp,hdp⟩:=nmz (dcP1 T2)
    obtain ⟨dq,hdq⟩:=nmz (dcQ1 T2)
    obtain ⟨du,hdu⟩:=nmz (dcP2 T2)
    obtain ⟨dv,hdv⟩:=nmz (dcQ2 T2)
    obtain ⟨dc,hdc⟩:=nmz (dcE T2)
    have HD:=hJ (And.intro (And.intro hdp hdq) (And.intro hdu (And.intro hdv hdc)))
    have aC:=hJ (show Fr dp dq∧Fr du dv by rw [←hdp,←hdq,←hdu,←hdv]; exact dc_fr T2)
    have aX:=hJ (show dc=0∨dc=2 by rw [←hdc]; exact dcE_02 T2)
    have aY:=hJ (show dc=0→encP dp dq du dv=T2∧(fracT dp dq).length≤T2.length∧(fracT du dv).length≤T2.length by rw [←hdc,←hdp,←hdq,←hdu,←hdv]; exact fun h=>enc_dec h)
    clear hdp hdq hdu hdv hdc
    have dB:=hJ (bt cA.out aH.out)
    have fE:=hJ (In.new jE.out dB.out)
    go_wp2_with fail
    clear kH
    refine (decode_any T2 aq nm kb _ wl58 fE.out bG.out (by have:=bC.out; omega)).mono ?_
    rw [HD.out.1.1,HD.out.1.2,HD.out.2.1,HD.out.2.2.1,HD.out.2.2.2]
    rintro e w74 ⟨s20,A20,n20,c20,t20,B20,m20,d20,s21,A21,n21,c21,t21,B21,m21,d21,rfl,hr20,hr21,hb⟩
    have dH:=hJ hb
    have kI:=hJ hr20
    have kJ:=hJ hr21
    clear hb hr20 hr21
    obtain ⟨x75,cD⟩:=nmz (w74.alloc (.cells #[.bool s20,.slice A20 n20 c20,.bool t20,.slice B20 m20 d20,.bool s21,.slice A21 n21 c21,.bool t21,.slice B21 m21 d21] 29))
    have bM:=hJ (show Below w74.heap.size w74 x75 by rw [←cD]; exact ((Below.refl _ _).alloc (Nat.le_refl _) _))
    have aS:=hJ (show BX 29 x75 w74.heap.size #[.bool s20,.slice A20 n20 c20,.bool t20,.slice B20 m20 d20,.bool s21,.slice A21 n21 c21,.bool t21,.slice B21 m21 d21] by rw [←cD]; exact (BX.at rfl))
    rcases aX.out with hc | hc
    ·obtain rfl:=hc
     have aI:=hJ (aY.out rfl)
     have aM:=hJ (bt dH.out bM.out)
     have aZ:=hJ (BX.new aL.out aM.out)
     have dI:Hid (∀ w',Below x75.heap.size x75 w'→(fun w':World=>w'.cell? ⟨w74.heap.size,0,none⟩=some (.bool s20)∧w'.cell? ⟨w74.heap.size,1,none⟩=some (.slice A20 n20 c20)∧w'.cell? ⟨w74.heap.size,2,none⟩=some (.bool t20)∧w'.cell? ⟨w74.heap.size,3,none⟩=some (.slice B20 m20 d20)∧w'.cell? ⟨w74.heap.size,4,none⟩=some (.bool s21)∧w'.cell? ⟨w74.heap.size,5,none⟩=some (.slice A21 n21 c21)∧w'.cell? ⟨w74.heap.size,6,none⟩=some (.bool t21)∧w'.cell? ⟨w74.heap.size,7,none⟩=some (.slice B21 m21 d21)∧w'.cell? ⟨bZ,2,none⟩=some (.slice aq nm kb)∧Below x75.heap.size x75 w') w'):=hJ (fun w' hb=>⟨(BX.new aS.out hb).cell 0 rfl,(BX.new aS.out hb).cell 1 rfl,(BX.new aS.out hb).cell 2 rfl,(BX.new aS.out hb).cell 3 rfl,(BX.new aS.out hb).cell 4 rfl,(BX.new aS.out hb).cell 5 rfl,(BX.new aS.out hb).cell 6 rfl,(BX.new aS.out hb).cell 7 rfl,(BX.new aZ.out hb).cell 2 rfl,hb⟩)
     have kK:=hJ (PF.new kI.out bM.out)
     have kL:=hJ (PF.new kJ.out bM.out)
     have kM:=hJ (In.new fE.out aM.out)
     go_wp2_with fail
     clear cD
     obtain ⟨v76,hv76⟩:=nmz (World.drew x75)
     have dJ:=hJ (show Below x75.heap.size x75 v76 by rw [←hv76]; exact (Below.refl _ _).drew)
     refine whd dI hv76 (fun hHeld=>?_)
     clear hv76
     refine tq 0 ?_
     refine tq 1 ?_
     refine tq 2 ?_
     try simp only [PT]
     refine wpAnyH_take (i:=3) (v:=undef) rfl (by kernel_rfl) (by kernel_rfl) (by kernel_rfl) (fun _ _ _ h=>h) (Or.inr ⟨by kernel_rfl,rfl⟩) (by assumption) ?_
     try simp only [PT]
     refine wpAnyH_take (i:=4) (v:=undef) rfl (by kernel_rfl) (by kernel_rfl) (by kernel_rfl) (fun _ _ _ h=>h) (Or.inr ⟨by kernel_rfl,rfl⟩) (by assumption) ?_
     refine tq 5 ?_
     refine tq 6 ?_
     refine tq 7 ?_
     refine tq 8 ?_
     refine tq 9 ?_
     refine tq 10 ?_
     refine tq 12 ?_
     refine tq 13 ?_
     refine tq 14 ?_
     refine tq 15 ?_
     try simp only [PT]
     refine ryy [11] ?_
     refine .cons rfl (fun K hK=>?_) .nil
     go_simp
     go_at_call 8
     refine (encb_any dp dq du dv T2 nm s20 A20 n20 c20 t20 B20 m20 d20 s21 A21 n21 c21 t21 B21 m21 d21 v76 (PF.new kK.out dJ.out) (PF.new kL.out dJ.out) ⟨⟨aC.out.1.1.1,aC.out.1.2.1,aC.out.1.2.2⟩,⟨aC.out.2.1.1,aC.out.2.2.1,aC.out.2.2.2⟩⟩ (by have h1:=aI.out.2.1; have h2:=aI.out.2.2; have h3:=bG.out; have:nm≤63:=(by have:=bC.out; omega); omega) aI.out.1 bG.out).mono ?_
     rintro e v77 ⟨ag,kg,rfl,hig,hb⟩
     have kN:=hJ hb
     have kO:=hJ hig
     clear hb hig
     go_wp2_with fail
     have dK:=hJ (bt dJ.out kN.out)
     clear hHeld
     refine hK.out _ _ (dI.out _ dK.out) (fun hHeld=>?_)
     clear hK K
     try simp only [PT]
     refine ryy [16] ?_
     refine .cons rfl (fun K hK=>?_) .nil
     go_simp
     go_at_call 13
     refine (sameBytes_any (bI T2) (bI T2) ag aq nm nm kg kb v77.heap.size v77.heap.size true v77 (by rw [bI_len]; exact bG.out.symm) (by rw [bI_len]; exact bG.out.symm) (by have:=bC.out; omega) (by have:=bC.out; omega) (kO.out).rd ((In.new kM.out dK.out)).rd (Nat.le_refl _) (Nat.le_refl _) (by simp)).mono ?_
     rintro e v78 ⟨rfl,hb⟩
     have kP:=hJ hb
     clear hb
     go_wp2_with fail
     have fF:=hJ (bt dK.out kP.out)
     clear hHeld
     refine hK.out _ _ (dI.out _ fF.out) (fun hHeld=>?_)
     clear hK K
     refine tq 17 ?_
     refine tq 18 ?_
     refine tq 19 ?_
     try simp only [PT]
     refine wpAnyH_done (by kernel_rfl) ?_ _
     clear hHeld
     have aJ:=hJ (bt (bt (bt aH.out dH.out) bM.out) fF.out)
     go_wp2_with fail
     go_roundw
     case rel=>exact ⟨2+1,by omega,by go_num,aJ.out⟩
     case measure=>simp [intOf] <;> omega
    obtain rfl:=hc
    have kQ:Hid (∀ w',Below x75.heap.size x75 w'→(fun w':World=>Below x75.heap.size x75 w') w'):=hJ (fun w' hb=>hb)
    go_wp2_with fail
    clear cD
    obtain ⟨v79,hv79⟩:=nmz (World.drew x75)
    have kR:=hJ (show Below x75.heap.size x75 v79 by rw [←hv79]; exact (Below.refl _ _).drew)
    refine whd kQ hv79 (fun hHeld=>?_)
    clear hv79
    refine tq 0 ?_
    refine tq 1 ?_
    refine tq 2 ?_
    refine tq 3 ?_
    refine tq 4 ?_
    refine tq 5 ?_
    refine tq 6 ?_
    refine tq 7 ?_
    refine tq 8 ?_
    refine tq 9 ?_
    try simp only [PT]
    refine wpAnyH_take (i:=10) (v:=undef) rfl (by kernel_rfl) (by kernel_rfl) (by kernel_rfl) (fun _ _ _ h=>h) (Or.inr ⟨by kernel_rfl,rfl⟩) (by assumption) ?_
    try simp only [PT]
    refine wpAnyH_take (i:=11) (v:=undef) rfl (by kernel_rfl) (by kernel_rfl) (by kernel_rfl) (fun _ _ _ h=>h) (Or.inr ⟨by kernel_rfl,rfl⟩) (by assumption) ?_
    try simp only [PT]
    refine wpAnyH_take (i:=12) (v:=undef) rfl (by kernel_rfl) (by kernel_rfl) (by kernel_rfl) (fun _ _ _ h=>h) (Or.inr ⟨by kernel_rfl,rfl⟩) (by assumption) ?_
    try simp only [PT]
    refine wpAnyH_take (i:=13) (v:=undef) rfl (by kernel_rfl) (by kernel_rfl) (by kernel_rfl) (fun _ _ _ h=>h) (Or.inr ⟨by kernel_rfl,rfl⟩) (by assumption) ?_
    try simp only [PT]
    refine wpAnyH_take (i:=14) (v:=undef) rfl (by kernel_rfl) (by kernel_rfl) (by kernel_rfl) (fun _ _ _ h=>h) (Or.inr ⟨by kernel_rfl,rfl⟩) (by assumption) ?_
    try simp only [PT]
    refine wpAnyH_take (i:=15) (v:=undef) rfl (by kernel_rfl) (by kernel_rfl) (by kernel_rfl) (fun _ _ _ h=>h) (Or.inr ⟨by kernel_rfl,rfl⟩) (by assumption) ?_
    try simp only [PT]
    refine wpAnyH_take (i:=16) (v:=undef) rfl (by kernel_rfl) (by kernel_rfl) (by kernel_rfl) (fun _ _ _ h=>h) (Or.inr ⟨by kernel_rfl,rfl⟩) (by assumption) ?_
    try simp only [PT]
    refine wpAnyH_take (i:=17) (v:=undef) rfl (by kernel_rfl) (by kernel_rfl) (by kernel_rfl) (fun _ _ _ h=>h) (Or.inr ⟨by kernel_rfl,rfl⟩) (by assumption) ?_
    refine tq 18 ?_
    refine tq 19 ?_
    try simp only [PT]
    refine wpAnyH_done (by kernel_rfl) ?_ _
    clear hHeld
    have aJ:=hJ (bt (bt (bt aH.out dH.out) bM.out) kR.out)
    go_wp2_with fail
    go_roundw
    case rel=>exact ⟨2+1,by omega,by go_num,aJ.out⟩
    case measure=>simp [intOf] <;> omega
   ·(try rw [show ((3:Nat):Int)=3 from rfl])
    have aL:=hJ (BX.new bD.out aH.out)
    have kS:=aL.out.cell 3 rfl
    obtain ⟨dp,hdp⟩:=nmz (dcP1 T3)
    obtain ⟨dq,hdq⟩:=nmz (dcQ1 T3)
    obtain ⟨du,hdu⟩:=nmz (dcP2 T3)
    obtain ⟨dv,hdv⟩:=nmz (dcQ2 T3)
    obtain ⟨dc,hdc⟩:=nmz (dcE T3)
    have HD:=hJ (And.intro (And.intro hdp hdq) (And.intro hdu (And.intro hdv hdc)))
    have aC:=hJ (show Fr dp dq∧Fr du dv by rw [←hdp,←hdq,←hdu,←hdv]; exact dc_fr T3)
    have aX:=hJ (show dc=0∨dc=2 by rw [←hdc]; exact dcE_02 T3)
    have aY:=hJ (show dc=0→encP dp dq du dv=T3∧(fracT dp dq).length≤T3.length∧(fracT du dv).length≤T3.length by rw [←hdc,←hdp,←hdq,←hdu,←hdv]; exact fun h=>enc_dec h)
    clear hdp hdq hdu hdv hdc
    have fG:=hJ (In.new jK.out aH.out)
    go_wp2_with fail
    clear kS
    refine (decode_any T3 (some ⟨aV,0,none⟩) (nb+1) aW _ wl58 fG.out bH.out (by have:=aB.out; omega)).mono ?_
    rw [HD.out.1.1,HD.out.1.2,HD.out.2.1,HD.out.2.2.1,HD.out.2.2.2]
    rintro e w81 ⟨s22,A22,n22,c22,t22,B22,m22,d22,s23,A23,n23,c23,t23,B23,m23,d23,rfl,hr22,hr23,hb⟩
    have dL:=hJ hb
    have kT:=hJ hr22
    have kU:=hJ hr23
    clear hb hr22 hr23
    obtain ⟨x82,cE⟩:=nmz (w81.alloc (.cells #[.bool s22,.slice A22 n22 c22,.bool t22,.slice B22 m22 d22,.bool s23,.slice A23 n23 c23,.bool t23,.slice B23 m23 d23] 29))
    have bN:=hJ (show Below w81.heap.size w81 x82 by rw [←cE]; exact ((Below.refl _ _).alloc (Nat.le_refl _) _))
    have aT:=hJ (show BX 29 x82 w81.heap.size #[.bool s22,.slice A22 n22 c22,.bool t22,.slice B22 m22 d22,.bool s23,.slice A23 n23 c23,.bool t23,.slice B23 m23 d23] by rw [←cE]; exact (BX.at rfl))
    rcases aX.out with hc | hc
    ·obtain rfl:=hc
     have aI:=hJ (aY.out rfl)
     have aM:=hJ (bt dL.out bN.out)
     have aZ:=hJ (BX.new aL.out aM.out)
     have dM:Hid (∀ w',Below x82.heap.size x82 w'→(fun w':World=>w'.cell? ⟨w81.heap.size,0,none⟩=some (.bool s22)∧w'.cell? ⟨w81.heap.size,1,none⟩=some (.slice A22 n22 c22)∧w'.cell? ⟨w81.heap.size,2,none⟩=some (.bool t22)∧w'.cell? ⟨w81.heap.size,3,none⟩=some (.slice B22 m22 d22)∧w'.cell? ⟨w81.heap.size,4,none⟩=some (.bool s23)∧w'.cell? ⟨w81.heap.size,5,none⟩=some (.slice A23 n23 c23)∧w'.cell? ⟨w81.heap.size,6,none⟩=some (.bool t23)∧w'.cell? ⟨w81.heap.size,7,none⟩=some (.slice B23 m23 d23)∧w'.cell? ⟨bZ,3,none⟩=some (.slice (some ⟨aV,0,none⟩) (nb+1) aW)∧Below x82.heap.size x82 w') w'):=hJ (fun w' hb=>⟨(BX.new aT.out hb).cell 0 rfl,(BX.new aT.out hb).cell 1 rfl,(BX.new aT.out hb).cell 2 rfl,(BX.new aT.out hb).cell 3 rfl,(BX.new aT.out hb).cell 4 rfl,(BX.new aT.out hb).cell 5 rfl,(BX.new aT.out hb).cell 6 rfl,(BX.new aT.out hb).cell 7 rfl,(BX.new aZ.out hb).cell 3 rfl,hb⟩)
     have kV:=hJ (PF.new kT.out bN.out)
     have kW:=hJ (PF.new kU.out bN.out)
     have kX:=hJ (In.new fG.out aM.out)
     go_wp2_with fail
     clear cE
     obtain ⟨v83,hv83⟩:=nmz (World.drew x82)
     have dN:=hJ (show Below x82.heap.size x82 v83 by rw [←hv83]; exact (Below.refl _ _).drew)
     refine whd dM hv83 (fun hHeld=>?_)
     clear hv83
     refine tq 0 ?_
     refine tq 1 ?_
     refine tq 2 ?_
     try simp only [PT]
     refine wpAnyH_take (i:=3) (v:=undef) rfl (by kernel_rfl) (by kernel_rfl) (by kernel_rfl) (fun _ _ _ h=>h) (Or.inr ⟨by kernel_rfl,rfl⟩) (by assumption) ?_
     try simp only [PT]
     refine wpAnyH_take (i:=4) (v:=undef) rfl (by kernel_rfl) (by kernel_rfl) (by kernel_rfl) (fun _ _ _ h=>h) (Or.inr ⟨by kernel_rfl,rfl⟩) (by assumption) ?_
     refine tq 5 ?_
     refine tq 6 ?_
     refine tq 7 ?_
     refine tq 8 ?_
     refine tq 9 ?_
     refine tq 10 ?_
     refine tq 12 ?_
     refine tq 13 ?_
     refine tq 14 ?_
     refine tq 15 ?_
     try simp only [PT]
     refine ryy [11] ?_
     refine .cons rfl (fun K hK=>?_) .nil
     go_simp
     go_at_call 8
     refine (encb_any dp dq du dv T3 (nb+1) s22 A22 n22 c22 t22 B22 m22 d22 s23 A23 n23 c23 t23 B23 m23 d23 v83 (PF.new kV.out dN.out) (PF.new kW.out dN.out) ⟨⟨aC.out.1.1.1,aC.out.1.2.1,aC.out.1.2.2⟩,⟨aC.out.2.1.1,aC.out.2.2.1,aC.out.2.2.2⟩⟩ (by have h1:=aI.out.2.1; have h2:=aI.out.2.2; have h3:=bH.out; have:nb+1≤63:=(by have:=aB.out; omega); omega) aI.out.1 bH.out).mono ?_
     rintro e v84 ⟨ag,kg,rfl,hig,hb⟩
     have kY:=hJ hb
     have kZ:=hJ hig
     clear hb hig
     go_wp2_with fail
     have dO:=hJ (bt dN.out kY.out)
     clear hHeld
     refine hK.out _ _ (dM.out _ dO.out) (fun hHeld=>?_)
     clear hK K
     try simp only [PT]
     refine ryy [16] ?_
     refine .cons rfl (fun K hK=>?_) .nil
     go_simp
     go_at_call 13
     refine (sameBytes_any (bI T3) (bI T3) ag (some ⟨aV,0,none⟩) (nb+1) (nb+1) kg aW v84.heap.size v84.heap.size true v84 (by rw [bI_len]; exact bH.out.symm) (by rw [bI_len]; exact bH.out.symm) (by have:=aB.out; omega) (by have:=aB.out; omega) (kZ.out).rd ((In.new kX.out dO.out)).rd (Nat.le_refl _) (Nat.le_refl _) (by simp)).mono ?_
     rintro e v85 ⟨rfl,hb⟩
     have lA:=hJ hb
     clear hb
     go_wp2_with fail
     have fH:=hJ (bt dO.out lA.out)
     clear hHeld
     refine hK.out _ _ (dM.out _ fH.out) (fun hHeld=>?_)
     clear hK K
     refine tq 17 ?_
     refine tq 18 ?_
     refine tq 19 ?_
     try simp only [PT]
     refine wpAnyH_done (by kernel_rfl) ?_ _
     clear hHeld
     have aJ:=hJ (bt (bt (bt aH.out dL.out) bN.out) fH.out)
     go_wp2_with fail
     go_roundw
     case rel=>exact ⟨3+1,by omega,by go_num,aJ.out⟩
     case measure=>simp [intOf] <;> omega
    obtain rfl:=hc
    have lB:Hid (∀ w',Below x82.heap.size x82 w'→(fun w':World=>Below x82.heap.size x82 w') w'):=hJ (fun w' hb=>hb)
    go_wp2_with fail
    clear cE
    obtain ⟨v86,hv86⟩:=nmz (World.drew x82)
    have lC:=hJ (show Below x82.heap.size x82 v86 by rw [←hv86]; exact (Below.refl _ _).drew)
    refine whd lB hv86 (fun hHeld=>?_)
    clear hv86
    refine tq 0 ?_
    refine tq 1 ?_
    refine tq 2 ?_
    refine tq 3 ?_
    refine tq 4 ?_
    refine tq 5 ?_
    refine tq 6 ?_
    refine tq 7 ?_
    refine tq 8 ?_
    refine tq 9 ?_
    try simp only [PT]
    refine wpAnyH_take (i:=10) (v:=undef) rfl (by kernel_rfl) (by kernel_rfl) (by kernel_rfl) (fun _ _ _ h=>h) (Or.inr ⟨by kernel_rfl,rfl⟩) (by assumption) ?_
    try simp only [PT]
    refine wpAnyH_take (i:=11) (v:=undef) rfl (by kernel_rfl) (by kernel_rfl) (by kernel_rfl) (fun _ _ _ h=>h) (Or.inr ⟨by kernel_rfl,rfl⟩) (by assumption) ?_
    try simp only [PT]
    refine wpAnyH_take (i:=12) (v:=undef) rfl (by kernel_rfl) (by kernel_rfl) (by kernel_rfl) (fun _ _ _ h=>h) (Or.inr ⟨by kernel_rfl,rfl⟩) (by assumption) ?_
    try simp only [PT]
    refine wpAnyH_take (i:=13) (v:=undef) rfl (by kernel_rfl) (by kernel_rfl) (by kernel_rfl) (fun _ _ _ h=>h) (Or.inr ⟨by kernel_rfl,rfl⟩) (by assumption) ?_
    try simp only [PT]
    refine wpAnyH_take (i:=14) (v:=undef) rfl (by kernel_rfl) (by kernel_rfl) (by kernel_rfl) (fun _ _ _ h=>h) (Or.inr ⟨by kernel_rfl,rfl⟩) (by assumption) ?_
    try simp only [PT]
    refine wpAnyH_take (i:=15) (v:=undef) rfl (by kernel_rfl) (by kernel_rfl) (by kernel_rfl) (fun _ _ _ h=>h) (Or.inr ⟨by kernel_rfl,rfl⟩) (by assumption) ?_
    try simp only [PT]
    refine wpAnyH_take (i:=16) (v:=undef) rfl (by kernel_rfl) (by kernel_rfl) (by kernel_rfl) (fun _ _ _ h=>h) (Or.inr ⟨by kernel_rfl,rfl⟩) (by assumption) ?_
    try simp only [PT]
    refine wpAnyH_take (i:=17) (v:=undef) rfl (by kernel_rfl) (by kernel_rfl) (by kernel_rfl) (fun _ _ _ h=>h) (Or.inr ⟨by kernel_rfl,rfl⟩) (by assumption) ?_
    refine tq 18 ?_
    refine tq 19 ?_
    try simp only [PT]
    refine wpAnyH_done (by kernel_rfl) ?_ _
    clear hHeld
    have aJ:=hJ (bt (bt (bt aH.out dL.out) bN.out) lC.out)
    go_wp2_with fail
    go_roundw
    case rel=>exact ⟨3+1,by omega,by go_num,aJ.out⟩
    case measure=>simp [intOf] <;> omega
   (try rw [show ((4:Nat):Int)=4 from rfl])
   go_wp2_with fail
   refine (plives_any wl58).mono ?_
   rintro e w87 ⟨rfl,hb⟩
   have lD:=hJ hb
   clear hb
   have lE:=hJ (bt (bt (bt eX.out cA.out) aH.out) lD.out)
   go_wp2
   go_ret
   exact ⟨rfl,lE.out⟩
 have fI:∀ (af:Option Addr) (kf:Nat) (ae:Option Addr) (ke:Nat) (v:World),Hid (Below x53.heap.size x53 v)→Hid (In .u8 v (fun _=>True) (.slice af n0 kf) (bI T0))→Hid (OB2 x53.heap.size v (.slice ae nb ke) nb eb (.slice af n0 kf) T0)→F 4 (Array.setIfInBounds (Array.setIfInBounds L0 1 true) 11 true) (Act.put (Act.put a0 (some 75) (.slice af n0 kf)) (some 85) (.slice ae nb ke)) v:=by
  intro af kf ae ke v aF aN cW
  subst hF ha0 hL0
  simp only [PT] at bW ⊢
  have hHeld:=aK.out _ aF.out
  refine ryy [13] ?_
  refine .cons rfl (fun K hK=>?_) .nil
  go_simp
  have cF:=hJ ((Below.refl v.heap.size v).alloc (Nat.le_refl _) (.cells #[.int .u8 (cb.toNat:Int)] 5))
  have dP:=hJ (BX.lit v 5 #[.int .u8 (cb.toNat:Int)])
  obtain ⟨v88,hV⟩:=nmz (World.alloc v (.cells #[.int .u8 (cb.toNat:Int)] 5))
  obtain ⟨aD,hg⟩:=nmz (v.heap.size)
  rw [hV] at cF dP ⊢
  rw [hg] at dP ⊢
  have lF:=hJ (show x53.heap.size≤aD by rw [←hg]; exact aF.out.size)
  clear hV hg
  have fJ:=hJ (bt aF.out cF.out)
  have lG:=hJ (In.new aN.out cF.out)
  have lH:=hJ (ob2_new cW.out cF.out)
  clear hHeld
  refine hK.out _ _ (aK.out _ fJ.out) (fun hHeld=>?_)
  clear hK K
  try simp only [PT]
  exact wpAnyH_cast (by kernel_rfl) (bW af kf ae ke aD v88 fJ lG lH dP lF)
 have cG:∀ (af:Option Addr) (kf:Nat) (aD:Nat) (v:World),Hid (Below x53.heap.size x53 v)→Hid (In .u8 v (fun _=>True) (.slice af n0 kf) (bI T0))→Hid (BX 5 v aD #[.int .u8 (cb.toNat:Int)])→Hid (x53.heap.size≤aD)→F 4 (Array.setIfInBounds (Array.setIfInBounds L0 1 true) 13 true) (Act.put (Act.put a0 (some 75) (.slice af n0 kf)) (some 87) (.slice (some ⟨aD,0,none⟩) 1 1)) v:=by
  intro af kf aD v aF aN bJ bX
  subst hF ha0 hL0
  simp only [PT] at bW ⊢
  have hHeld:=aK.out _ aF.out
  refine ryy [11] ?_
  refine .cons rfl (fun K hK=>?_) .nil
  go_simp
  go_at_call 15
  refine (fewc_any x53.heap.size (.slice ab nb kb) eb nb nb (.slice af n0 kf) T0 v (aF.out).size (In.new cV.out aF.out).src (by rw [aG.out]; unfold maxLen; have:=aB.out; omega) (by have:=aB.out; omega) (List.take_of_length_le (by rw [aG.out]; exact Nat.le_refl _)) aG.out aN.out).mono ?_
  rintro e v89 ⟨ae,ke,rfl,hoe,hb⟩
  have dQ:=hJ hb
  have lI:=hJ hoe
  clear hb hoe
  go_wp2_with fail
  have fK:=hJ (bt aF.out dQ.out)
  have lJ:=hJ (In.new aN.out dQ.out)
  have lK:=hJ (BX.new bJ.out dQ.out)
  clear hHeld
  refine hK.out _ _ (aK.out _ fK.out) (fun hHeld=>?_)
  clear hK K
  try simp only [PT]
  exact wpAnyH_cast (by kernel_rfl) (bW af kf ae ke aD v89 fK lJ lI lK bX)
 have fL:∀ (af:Option Addr) (kf:Nat) (v:World),Hid (Below x53.heap.size x53 v)→Hid (In .u8 v (fun _=>True) (.slice af n0 kf) (bI T0))→F 5 (Array.setIfInBounds L0 1 true) (Act.put a0 (some 75) (.slice af n0 kf)) v:=by
  intro af kf v aF aN
  subst hF ha0 hL0
  simp only [PT] at fI cG ⊢
  have hHeld:=aK.out _ aF.out
  refine ryy [11,13] ?_
  refine .cons rfl (fun K hK=>?_) ?_
  go_simp
  go_at_call 15
  refine (fewc_any x53.heap.size (.slice ab nb kb) eb nb nb (.slice af n0 kf) T0 v (aF.out).size (In.new cV.out aF.out).src (by rw [aG.out]; unfold maxLen; have:=aB.out; omega) (by have:=aB.out; omega) (List.take_of_length_le (by rw [aG.out]; exact Nat.le_refl _)) aG.out aN.out).mono ?_
  rintro e v90 ⟨ae,ke,rfl,hoe,hb⟩
  have fM:=hJ hb
  have lL:=hJ hoe
  clear hb hoe
  go_wp2_with fail
  have fN:=hJ (bt aF.out fM.out)
  have lM:=hJ (In.new aN.out fM.out)
  clear hHeld
  refine hK.out _ _ (aK.out _ fN.out) (fun hHeld=>?_)
  clear hK K
  try simp only [PT]
  exact wpAnyH_cast (by kernel_rfl) (fI af kf ae ke v90 fN lM lL)
  refine .cons rfl (fun K hK=>?_) .nil
  go_simp
  have dR:=hJ ((Below.refl v.heap.size v).alloc (Nat.le_refl _) (.cells #[.int .u8 (cb.toNat:Int)] 5))
  have dS:=hJ (BX.lit v 5 #[.int .u8 (cb.toNat:Int)])
  obtain ⟨v91,hV⟩:=nmz (World.alloc v (.cells #[.int .u8 (cb.toNat:Int)] 5))
  obtain ⟨aD,hg⟩:=nmz (v.heap.size)
  rw [hV] at dR dS ⊢
  rw [hg] at dS ⊢
  have lN:=hJ (show x53.heap.size≤aD by rw [←hg]; exact aF.out.size)
  clear hV hg
  have fO:=hJ (bt aF.out dR.out)
  have lO:=hJ (In.new aN.out dR.out)
  clear hHeld
  refine hK.out _ _ (aK.out _ fO.out) (fun hHeld=>?_)
  clear hK K
  try simp only [PT]
  exact wpAnyH_cast (by kernel_rfl) (cG af kf aD v91 fO lO dS lN)
 have fP:∀ (aD:Nat) (v:World),Hid (Below x53.heap.size x53 v)→Hid (BX 5 v aD #[.int .u8 (cb.toNat:Int)])→Hid (x53.heap.size≤aD)→F 5 (Array.setIfInBounds L0 13 true) (Act.put a0 (some 87) (.slice (some ⟨aD,0,none⟩) 1 1)) v:=by
  intro aD v aF bJ bX
  subst hF ha0 hL0
  simp only [PT] at cG ⊢
  have hHeld:=aK.out _ aF.out
  refine ryy [1] ?_
  refine .cons rfl (fun K hK=>?_) .nil
  go_simp
  go_at_call 15
  refine (fewb_any (.slice A3 l3 c3) rl T0 20 n0 v (src_belowJ eY.out aF.out) dU.out (by decide) eV.out aU.out).mono ?_
  rintro e v92 ⟨af,kf,rfl,hif,hb⟩
  have fQ:=hJ hb
  have lP:=hJ hif
  clear hb hif
  go_wp2_with fail
  have fR:=hJ (bt aF.out fQ.out)
  have lQ:=hJ (BX.new bJ.out fQ.out)
  clear hHeld
  refine hK.out _ _ (aK.out _ fR.out) (fun hHeld=>?_)
  clear hK K
  try simp only [PT]
  exact wpAnyH_cast (by kernel_rfl) (cG af kf aD v92 fR lP lQ bX)
 subst hF ha0 hL0
 simp only [PT] at fL fP
 refine ryy [1,13] ?_
 refine .cons rfl (fun K hK=>?_) ?_
 go_simp
 go_at_call 15
 refine (fewb_any (.slice A3 l3 c3) rl T0 20 n0 v54 (src_belowJ eY.out bV.out) dU.out (by decide) eV.out aU.out).mono ?_
 rintro e v93 ⟨af,kf,rfl,hif,hb⟩
 have lR:=hJ hb
 have lS:=hJ hif
 clear hb hif
 go_wp2_with fail
 have fS:=hJ (bt bV.out lR.out)
 clear hHeld
 refine hK.out _ _ (aK.out _ fS.out) (fun hHeld=>?_)
 clear hK K
 try simp only [PT]
 exact wpAnyH_cast (by kernel_rfl) (fL af kf v93 fS lS)
 refine .cons rfl (fun K hK=>?_) .nil
 go_simp
 have fT:=hJ ((Below.refl v54.heap.size v54).alloc (Nat.le_refl _) (.cells #[.int .u8 (cb.toNat:Int)] 5))
 have dT:=hJ (BX.lit v54 5 #[.int .u8 (cb.toNat:Int)])
 obtain ⟨v94,hV⟩:=nmz (World.alloc v54 (.cells #[.int .u8 (cb.toNat:Int)] 5))
 obtain ⟨aD,hg⟩:=nmz (v54.heap.size)
 rw [hV] at fT dT ⊢
 rw [hg] at dT ⊢
 have lT:=hJ (show x53.heap.size≤aD by rw [←hg]; exact bV.out.size)
 clear hV hg
 have fU:=hJ (bt bV.out fT.out)
 clear hHeld
 refine hK.out _ _ (aK.out _ fU.out) (fun hHeld=>?_)
 clear hK K
 try simp only [PT]
 exact wpAnyH_cast (by kernel_rfl) (fP aD v94 fU dT lT)
theorem pointBytes_law (a0 a1 a2:Int) (a3:Option Addr) (len3 cap3:Nat) (z3:List Int) (w:World) (w0:(Lit.int .i64 a0).wf=true) (w1:(Lit.int .i64 a1).wf=true) (w2:(Lit.int .u8 a2).wf=true) (w3:RowJ .u8 w a3 len3 cap3 z3) :
  Calls Tryz.prog 3 #[.int .i64 a0,.int .i64 a1,.int .u8 a2,.slice a3 len3 cap3] w fun e w'=>e=.returned (.bool true)∧Below w.heap.size w w':=by
 obtain ⟨ls,h1,h2,h3,h4⟩:=w3.openJ
 obtain ⟨l,rfl⟩:=bytesJ h3
 obtain ⟨c,rfl⟩:=byteJ w2
 rw [bI_len] at h1
 exact pointBytes_walk a0 a1 c l a3 len3 cap3 w w0 w1 h4 (by rw [h1]; exact h2)
end Go.Proofs.YtbgfmegepekapaaGreat
