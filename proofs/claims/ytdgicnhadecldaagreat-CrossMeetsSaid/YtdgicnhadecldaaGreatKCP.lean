/- Contract of the reference's Pair. Conditions: as each statement has them. -/
import Derived.OpenShut
import Derived.Test.YtdgicnhadecldaaGreatKB2
import Derived.Test.YtdgicnhadecldaaGreatKB5
import Derived.Test.YtdgicnhadecldaaGreatKCF
import Derived.Test.YtdgicnhadecldaaGreatKEA
import Derived.Test.YtdgicnhadecldaaGreatKFD
import Derived.Test.YtdgicnhadecldaaGreatKQL
namespace Go.Proofs.YtdgicnhadecldaaGreat
open Go.RowKit
attribute [local go_sem ↓] Go.wp_at_zero Go.wp_at_succ
set_option linter.unusedVariables false
set_option linter.unusedSimpArgs false
theorem results_cellP2 {P:Program} {fn:Func} {p q:Tmp} {ty ty':TypeId} (h:fn.results=#[.cell p ty,.cell q ty']) (tmps:Array Value) (w:World) (g g':Nat) (t t':TypeId) (cs cs':Array Value) (fr fr':Nat × Nat) (d d':TypeDesc)
  (hp:tmps.getD p undef=.pointer (some ⟨g,0,none⟩)) (hq:tmps.getD q undef=.pointer (some ⟨g',0,none⟩)) (hg:w.heap[g]?=some (.cells cs t fr)) (hg':w.heap[g']?=some (.cells cs' t' fr'))
  (hu:P.underlying ty=some d) (hd:(match d with | .struct _ | .array _ _=>true | _=>false)=true) (hi:(P.info? ty).map (·.size)=some cs.size)
  (hu':P.underlying ty'=some d') (hd':(match d' with | .struct _ | .array _ _=>true | _=>false)=true) (hi':(P.info? ty').map (·.size)=some cs'.size) :
  (results fn tmps).run P w=.ok (.tuple #[.agg cs,.agg cs']) w:=by
 have hp':tmps[p]?.getD undef=.pointer (some ⟨g,0,none⟩):=by simpa using hp
 have hq':tmps[q]?.getD undef=.pointer (some ⟨g',0,none⟩):=by simpa using hq
 simp [results,h,hp',hq',asAddr,run_loadVar_row w g t ty cs fr d hg hu hd hi,run_loadVar_row w g' t' ty' cs' fr' d' hg' hu' hd' hi']
/-- A valid segment near the origin. -/
def Sp (ax ay bx by':Int):Prop:=((-100≤ax∧ax≤100)∧(-100≤ay∧ay≤100)∧(-100≤bx∧bx≤100)∧(-100≤by'∧by'≤100))∧¬ (ax=bx∧ay=by')
def Tb (ax ay bx by':Int):Prop:=(-99≤ax∧ax≤99)∧(-99≤ay∧ay≤99)∧(-99≤bx∧bx≤99)∧(-99≤by'∧by'≤99)
theorem Sp.vs {ax ay bx by':Int} (g:Sp ax ay bx by'):(vdP (ax,ay)=0∧vdP (bx,by')=0)∧¬ (ax=bx∧ay=by'):=by
 obtain ⟨⟨g1,g2,g3,g4⟩,h⟩:=g
 refine ⟨⟨if_pos ?_,if_pos ?_⟩,h⟩ <;> dsimp only <;> omega
theorem i6_s {x:Int} (h : -500≤x∧x≤500):I6 x:=by unfold I6; omega
theorem sp_sw {ax ay bx by':Int} (h:Sp ax ay bx by'):Sp bx by' ax ay:=⟨⟨h.1.2.2.1,h.1.2.2.2,h.1.1,h.1.2.1⟩,fun e=>h.2 ⟨e.1.symm,e.2.symm⟩⟩
/-- The code behind n statements. -/
def sqP:Nat→Code→Code
 | 0,c=>c
 | n+1,.seq _ b=>sqP n b
 | _+1,c=>c
def fsP:Code→Code
 | .seq a _=>a
 | c=>c
noncomputable def pairB:Code:=(Tryz.f11.body).getD .skip
set_option maxRecDepth 100000 in
set_option maxHeartbeats 12800000 in
theorem pair_t {u0 u1 u2 u3 u4 u5 u11 u12 u13 u14 u15 u16 u17 u18 u19 u20 u21 u22 u23 u24 u25 u26 u27 u28 u29 u30 u31 u32 u33 u34 u35 u36 u37 u38 u39 u40 u41 u42 u43 u44 u45 u46 u47 u48 u49 u50 u51 u52 u53 u54 u55 u56 u57 u58 u59 u60 u61 u62 u63 u64 u65 u66 u67 u68 u69 u70 u71 u72 u73 u74 u75 u76 u77 u78 u79 u80 u81 u82 u83 u84 u85 u86 u87 u88 u89 u90 u91 u92 u93 u94 u95 u96 u97 u98 u99 u100 u101 u102 u103 u104 u105 u106 u107 u108 u109 u110 u111 u112 u113 u114 u115 u116 u117 u118:Value} (a1 a2 a3 a4 b1 b2 b3 b4 j t6:Int) (g6 g7 g8 g10:Nat) (z0 z1 z2 z3 y0 y1 y2 y3:Value) (w0 w:World) (bG:Hid (Sp a1 a2 a3 a4)) (cW:Hid (Tb b1 b2 b3 b4)) (dL:Hid (IntKind.i64.wrap (j.tdiv 6)=t6)) (bH:Hid (BX 25 w g6 #[z0,z1,z2,z3])) (aH:Hid (w0.heap.size≤g6)) (hE:Hid (g6 < w.heap.size)) (bJ:Hid (BX 25 w g7 #[y0,y1,y2,y3])) (aI:Hid (w0.heap.size≤g7)) (hF:Hid (g7 < w.heap.size)) (aD:Hid (BX 25 w g8 #[.int .i64 a1,.int .i64 a2,.int .i64 a3,.int .i64 a4])) (hG:Hid (w0.heap.size≤g8)) (hH:Hid (g8 < w.heap.size)) (aA:Hid (BX 25 w g10 #[.int .i64 b1,.int .i64 b2,.int .i64 b3,.int .i64 b4])) (cC:Hid (w0.heap.size≤g10)) (hI:Hid (g10 < w.heap.size)) (aJ:Hid (Below w0.heap.size w0 w)) (hne:g6≠g7∧g6≠g8∧g6≠g10∧g7≠g8∧g7≠g10∧g8≠g10)
  (K K':Act→World→Prop) (hK:∀ a w,Code.wp Tryz.prog (sqP 6 pairB) (bodyPost Tryz.prog Tryz.f11 (fun e w'=>∃ ax ay bx by' cx cy dx dy,e=.returned (.tuple #[(.agg #[.int .i64 ax,.int .i64 ay,.int .i64 bx,.int .i64 by']),(.agg #[.int .i64 cx,.int .i64 cy,.int .i64 dx,.int .i64 dy])])∧Sp ax ay bx by'∧Sp cx cy dx dy∧Below w0.heap.size w0 w')) a w→K a w) (hK':∀ a w,Code.wp Tryz.prog (sqP 1 (fsP (sqP 5 pairB))) (Exit.then K (bodyPost Tryz.prog Tryz.f11 (fun e w'=>∃ ax ay bx by' cx cy dx dy,e=.returned (.tuple #[(.agg #[.int .i64 ax,.int .i64 ay,.int .i64 bx,.int .i64 by']),(.agg #[.int .i64 cx,.int .i64 cy,.int .i64 dx,.int .i64 dy])])∧Sp ax ay bx by'∧Sp cx cy dx dy∧Below w0.heap.size w0 w'))) a w→K' a w) :
  Code.wp Tryz.prog (fsP (fsP (sqP 5 pairB))) (Exit.then K' (Exit.then K (bodyPost Tryz.prog Tryz.f11 (fun e w'=>∃ ax ay bx by' cx cy dx dy,e=.returned (.tuple #[(.agg #[.int .i64 ax,.int .i64 ay,.int .i64 bx,.int .i64 by']),(.agg #[.int .i64 cx,.int .i64 cy,.int .i64 dx,.int .i64 dy])])∧Sp ax ay bx by'∧Sp cx cy dx dy∧Below w0.heap.size w0 w')))) ⟨(u0 :: u1 :: u2 :: u3 :: u4 :: u5 :: (.pointer (some ⟨g6,0,none⟩):Value) :: (.pointer (some ⟨g7,0,none⟩):Value) :: (.pointer (some ⟨g8,0,none⟩):Value) :: (.int .i64 j:Value) :: (.pointer (some ⟨g10,0,none⟩):Value) :: u11 :: u12 :: u13 :: u14 :: u15 :: u16 :: u17 :: u18 :: u19 :: u20 :: u21 :: u22 :: u23 :: u24 :: u25 :: u26 :: u27 :: u28 :: u29 :: u30 :: u31 :: u32 :: u33 :: u34 :: u35 :: u36 :: u37 :: u38 :: u39 :: u40 :: u41 :: u42 :: u43 :: u44 :: u45 :: u46 :: u47 :: u48 :: u49 :: u50 :: u51 :: u52 :: u53 :: u54 :: u55 :: u56 :: u57 :: u58 :: u59 :: u60 :: u61 :: u62 :: u63 :: u64 :: u65 :: u66 :: u67 :: u68 :: u69 :: u70 :: u71 :: u72 :: u73 :: u74 :: u75 :: u76 :: u77 :: u78 :: u79 :: u80 :: u81 :: u82 :: u83 :: u84 :: u85 :: u86 :: u87 :: u88 :: u89 :: u90 :: u91 :: u92 :: u93 :: u94 :: u95 :: u96 :: u97 :: u98 :: u99 :: u100 :: u101 :: u102 :: u103 :: u104 :: u105 :: u106 :: u107 :: u108 :: u109 :: u110 :: u111 :: u112 :: u113 :: u114 :: u115 :: u116 :: u117 :: u118 :: []).toArray,[]⟩ w:=by
 conv=>arg 2; whnf
 conv at hK=>intro a w; arg 1; arg 2; whnf
 conv at hK'=>intro a w; arg 1; arg 2; whnf
 rcases (show (b1=b3∧b2=b4)∨¬ b1=b3∨(b1=b3∧¬ b2=b4) by omega) with ⟨hc,hd⟩ | hc | ⟨hc,hd⟩
 ·obtain rfl:=hc
  obtain rfl:=hd
  have bB:=hJ (show Sp b1 b2 b1 (b2+1) by have h:=cW.out; unfold Tb at h; unfold Sp; omega)
  obtain ⟨dN,dO⟩:=aA.out.c2 0 1 rfl rfl
  obtain ⟨dP,dQ⟩:=aA.out.c2 2 3 rfl rfl
  have dR:=aA.out.cell 3 rfl
  have dS:IntKind.i64.wrap (b2+1)=b2+1:=i6_wrap (show I6 (b2+1) by have:=cW.out; unfold Tb at this; unfold I6; omega)
  have dT:=aA.out.frozen 3
  have dU:=aA.out.cell 3 rfl
  obtain ⟨x6,dM⟩:=nmz (World.setCell w ⟨g10,3,none⟩ (.int .i64 (b2+1)))
  have aZ:=hJ (show sto w g10 3 [.int .i64 (b2+1)]=x6 from dM)
  have aC:=hJ (show BX 25 x6 g10 #[.int .i64 b1,.int .i64 b2,.int .i64 b1,.int .i64 (b2+1)] by rw [←aZ.out]; exact BX.put aA.out _ _)
  obtain ⟨q2,hq2⟩:=nmz (t6.tmod 2)
  have ht6:=dL.out
  by_cases hz:q2=0
  ·obtain rfl:=hz
   obtain ⟨eN,eO⟩:=aC.out.c2 2 3 rfl rfl
   obtain ⟨eP,eQ⟩:=aC.out.c2 0 1 rfl rfl
   have eR:=aC.out.frozen 0
   have eS:=aC.out.cell 0 rfl
   have eT:=aC.out.frozen 1
   have eU:=aC.out.cell 1 rfl
   have eV:=aC.out.frozen 2
   have eW:=aC.out.cell 2 rfl
   have eX:=aC.out.frozen 3
   have eY:=aC.out.cell 3 rfl
   obtain ⟨x11,dW⟩:=nmz (World.setCell (World.setCell (World.setCell (World.setCell x6 ⟨g10,0,none⟩ (.int .i64 b1)) ⟨g10,1,none⟩ (.int .i64 (b2+1))) ⟨g10,2,none⟩ (.int .i64 b1)) ⟨g10,3,none⟩ (.int .i64 b2))
   have cD:=hJ (show sto x6 g10 0 [.int .i64 b1,.int .i64 (b2+1),.int .i64 b1,.int .i64 b2]=x11 from dW)
   have cE:=hJ (show BX 25 x11 g10 #[.int .i64 b1,.int .i64 (b2+1),.int .i64 b1,.int .i64 b2] by rw [←cD.out]; exact BX.put aC.out _ _)
   have aB:=hJ (show BX 25 x6 g8 #[.int .i64 a1,.int .i64 a2,.int .i64 a3,.int .i64 a4] by rw [←aZ.out]; exact BX.far aD.out (show g8≠g10 by omega) _ _)
   have cF:=hJ (show BX 25 x11 g8 #[.int .i64 a1,.int .i64 a2,.int .i64 a3,.int .i64 a4] by rw [←cD.out]; exact BX.far aB.out (show g8≠g10 by omega) _ _)
   have aG:=hJ (show Below w0.heap.size w0 x6 by rw [←aZ.out]; exact below_sto aJ.out cC.out _ _)
   have bC:=hJ (show Below w0.heap.size w0 x11 by rw [←cD.out]; exact below_sto aG.out cC.out _ _)
   have eZ:Hid (∀ w',Below x11.heap.size x11 w'→(fun w':World=>w'.cell? ⟨g8,0,none⟩=some (.int .i64 a1)∧w'.cell? ⟨g8,1,none⟩=some (.int .i64 a2)∧w'.cell? ⟨g8,2,none⟩=some (.int .i64 a3)∧w'.cell? ⟨g8,3,none⟩=some (.int .i64 a4)∧w'.cell? ⟨g10,0,none⟩=some (.int .i64 b1)∧w'.cell? ⟨g10,1,none⟩=some (.int .i64 (b2+1))∧w'.cell? ⟨g10,2,none⟩=some (.int .i64 b1)∧w'.cell? ⟨g10,3,none⟩=some (.int .i64 b2)∧Below w0.heap.size w0 w') w'):=hJ (fun w' hb=>⟨(BX.new cF.out hb).cell 0 rfl,(BX.new cF.out hb).cell 1 rfl,(BX.new cF.out hb).cell 2 rfl,(BX.new cF.out hb).cell 3 rfl,(BX.new cE.out hb).cell 0 rfl,(BX.new cE.out hb).cell 1 rfl,(BX.new cE.out hb).cell 2 rfl,(BX.new cE.out hb).cell 3 rfl,(bt bC.out hb)⟩)
   have bD:=hJ (show BX 25 x6 g6 #[z0,z1,z2,z3] by rw [←aZ.out]; exact BX.far bH.out (show g6≠g10 by omega) _ _)
   have fA:=hJ (show BX 25 x11 g6 #[z0,z1,z2,z3] by rw [←cD.out]; exact BX.far bD.out (show g6≠g10 by omega) _ _)
   have bE:=hJ (show BX 25 x6 g7 #[y0,y1,y2,y3] by rw [←aZ.out]; exact BX.far bJ.out (show g7≠g10 by omega) _ _)
   have fB:=hJ (show BX 25 x11 g7 #[y0,y1,y2,y3] by rw [←cD.out]; exact BX.far bE.out (show g7≠g10 by omega) _ _)
   go_wp2_with fail
   clear dN dO dP dQ dR dS dT dU dM ht6 eN eO eP eQ eR eS eT eU eV eW eX eY dW
   obtain ⟨v12,hv12⟩:=nmz (World.drew x11)
   have bK:=hJ (show Below x11.heap.size x11 v12 by rw [←hv12]; exact (Below.refl _ _).drew)
   refine whd eZ hv12 (fun hHeld=>?_)
   clear hv12
   refine tq 0 ?_
   refine tq 1 ?_
   try simp only [PT]
   refine ryy [2] ?_
   refine .cons rfl (fun K hK=>?_) .nil
   have aK:=hJ (BX.new fA.out bK.out)
   have z13_0:=aK.out.cell 0 rfl
   have y13_0:=aK.out.frozen 0
   have z13_1:=aK.out.cell 1 rfl
   have y13_1:=aK.out.frozen 1
   have z13_2:=aK.out.cell 2 rfl
   have y13_2:=aK.out.frozen 2
   have z13_3:=aK.out.cell 3 rfl
   have y13_3:=aK.out.frozen 3
   have z13:=aK.out.lt
   go_simp
   obtain ⟨v13,hV⟩:=nmz (World.setCell (World.setCell (World.setCell (World.setCell v12 ⟨g6,0,none⟩ (.int .i64 a1)) ⟨g6,1,none⟩ (.int .i64 a2)) ⟨g6,2,none⟩ (.int .i64 a3)) ⟨g6,3,none⟩ (.int .i64 a4))
   rw [hV]
   have bL:=hJ (show sto v12 g6 0 [.int .i64 a1,.int .i64 a2,.int .i64 a3,.int .i64 a4]=v13 from hV)
   clear hV z13 z13_0 y13_0 z13_1 y13_1 z13_2 y13_2 z13_3 y13_3
   have dX:=hJ (show Below w0.heap.size w0 v13 by rw [←bL.out]; exact below_sto (bt bC.out bK.out) aH.out _ _)
   have cG:=hJ (show BX 25 v13 g8 #[.int .i64 a1,.int .i64 a2,.int .i64 a3,.int .i64 a4] by rw [←bL.out]; exact BX.far (BX.new cF.out bK.out) (show g8≠g6 by omega) _ _)
   have cH:=hJ (show BX 25 v13 g10 #[.int .i64 b1,.int .i64 (b2+1),.int .i64 b1,.int .i64 b2] by rw [←bL.out]; exact BX.far (BX.new cE.out bK.out) (show g10≠g6 by omega) _ _)
   clear hHeld
   refine hK.out _ _ (⟨cG.out.cell 0 rfl,cG.out.cell 1 rfl,cG.out.cell 2 rfl,cG.out.cell 3 rfl,cH.out.cell 0 rfl,cH.out.cell 1 rfl,cH.out.cell 2 rfl,cH.out.cell 3 rfl,dX.out⟩) (fun hHeld=>?_)
   clear hK K
   try simp only [PT]
   refine ryy [3] ?_
   refine .cons rfl (fun K hK=>?_) .nil
   have aL:=hJ (show BX 25 v13 g7 #[y0,y1,y2,y3] by rw [←bL.out]; exact BX.far (BX.new fB.out bK.out) (show g7≠g6 by omega) _ _)
   have z14_0:=aL.out.cell 0 rfl
   have y14_0:=aL.out.frozen 0
   have z14_1:=aL.out.cell 1 rfl
   have y14_1:=aL.out.frozen 1
   have z14_2:=aL.out.cell 2 rfl
   have y14_2:=aL.out.frozen 2
   have z14_3:=aL.out.cell 3 rfl
   have y14_3:=aL.out.frozen 3
   have z14:=aL.out.lt
   go_simp
   obtain ⟨v14,hV⟩:=nmz (World.setCell (World.setCell (World.setCell (World.setCell v13 ⟨g7,0,none⟩ (.int .i64 b1)) ⟨g7,1,none⟩ (.int .i64 (b2+1))) ⟨g7,2,none⟩ (.int .i64 b1)) ⟨g7,3,none⟩ (.int .i64 b2))
   rw [hV]
   have bM:=hJ (show sto v13 g7 0 [.int .i64 b1,.int .i64 (b2+1),.int .i64 b1,.int .i64 b2]=v14 from hV)
   clear hV z14 z14_0 y14_0 z14_1 y14_1 z14_2 y14_2 z14_3 y14_3
   have fC:=hJ (show Below w0.heap.size w0 v14 by rw [←bM.out]; exact below_sto dX.out aI.out _ _)
   have cX:=hJ (show BX 25 v14 g8 #[.int .i64 a1,.int .i64 a2,.int .i64 a3,.int .i64 a4] by rw [←bM.out]; exact BX.far (cG.out) (show g8≠g7 by omega) _ _)
   have cY:=hJ (show BX 25 v14 g10 #[.int .i64 b1,.int .i64 (b2+1),.int .i64 b1,.int .i64 b2] by rw [←bM.out]; exact BX.far (cH.out) (show g10≠g7 by omega) _ _)
   clear hHeld
   refine hK.out _ _ (⟨cX.out.cell 0 rfl,cX.out.cell 1 rfl,cX.out.cell 2 rfl,cX.out.cell 3 rfl,cY.out.cell 0 rfl,cY.out.cell 1 rfl,cY.out.cell 2 rfl,cY.out.cell 3 rfl,fC.out⟩) (fun hHeld=>?_)
   clear hK K
   try simp only [PT]
   refine wpAnyH_done (by kernel_rfl) ?_ _
   clear hHeld
   have fD:=hJ (show BX 25 v13 g6 #[.int .i64 a1,.int .i64 a2,.int .i64 a3,.int .i64 a4] by rw [←bL.out]; exact BX.put aK.out _ _)
   have fE:=hJ (show BX 25 v14 g7 #[.int .i64 b1,.int .i64 (b2+1),.int .i64 b1,.int .i64 b2] by rw [←bM.out]; exact BX.put aL.out _ _)
   have fF:=hJ (show BX 25 v14 g6 #[.int .i64 a1,.int .i64 a2,.int .i64 a3,.int .i64 a4] by rw [←bM.out]; exact BX.far fD.out (show g6≠g7 by omega) _ _)
   have bF:=hJ (show Below w0.heap.size w0 v13 by rw [←bL.out]; exact below_sto (bt bC.out bK.out) aH.out _ _)
   have fG:=hJ (show Below w0.heap.size w0 v14 by rw [←bM.out]; exact below_sto bF.out aI.out _ _)
   go_wp2
   exact bodyPost_ret (results_cellP2 rfl _ _ _ _ _ _ _ _ _ _ _ _ rfl rfl fF.out fE.out Tryz.underlying25 rfl (by kernel_rfl) Tryz.underlying25 rfl (by kernel_rfl)) rfl ⟨_,_,_,_,_,_,_,_,rfl,bG.out,(sp_sw bB.out),fG.out⟩
  have hqz:(q2 == 0)=false:=by simp [hz]
  clear hz
  have aB:=hJ (show BX 25 x6 g8 #[.int .i64 a1,.int .i64 a2,.int .i64 a3,.int .i64 a4] by rw [←aZ.out]; exact BX.far aD.out (show g8≠g10 by omega) _ _)
  have aG:=hJ (show Below w0.heap.size w0 x6 by rw [←aZ.out]; exact below_sto aJ.out cC.out _ _)
  have fH:Hid (∀ w',Below x6.heap.size x6 w'→(fun w':World=>w'.cell? ⟨g8,0,none⟩=some (.int .i64 a1)∧w'.cell? ⟨g8,1,none⟩=some (.int .i64 a2)∧w'.cell? ⟨g8,2,none⟩=some (.int .i64 a3)∧w'.cell? ⟨g8,3,none⟩=some (.int .i64 a4)∧w'.cell? ⟨g10,0,none⟩=some (.int .i64 b1)∧w'.cell? ⟨g10,1,none⟩=some (.int .i64 b2)∧w'.cell? ⟨g10,2,none⟩=some (.int .i64 b1)∧w'.cell? ⟨g10,3,none⟩=some (.int .i64 (b2+1))∧Below w0.heap.size w0 w') w'):=hJ (fun w' hb=>⟨(BX.new aB.out hb).cell 0 rfl,(BX.new aB.out hb).cell 1 rfl,(BX.new aB.out hb).cell 2 rfl,(BX.new aB.out hb).cell 3 rfl,(BX.new aC.out hb).cell 0 rfl,(BX.new aC.out hb).cell 1 rfl,(BX.new aC.out hb).cell 2 rfl,(BX.new aC.out hb).cell 3 rfl,(bt aG.out hb)⟩)
  have bD:=hJ (show BX 25 x6 g6 #[z0,z1,z2,z3] by rw [←aZ.out]; exact BX.far bH.out (show g6≠g10 by omega) _ _)
  have bE:=hJ (show BX 25 x6 g7 #[y0,y1,y2,y3] by rw [←aZ.out]; exact BX.far bJ.out (show g7≠g10 by omega) _ _)
  go_wp2_with fail
  clear dN dO dP dQ dR dS dT dU dM ht6
  obtain ⟨v15,hv15⟩:=nmz (World.drew x6)
  have bN:=hJ (show Below x6.heap.size x6 v15 by rw [←hv15]; exact (Below.refl _ _).drew)
  refine whd fH hv15 (fun hHeld=>?_)
  clear hv15
  refine tq 0 ?_
  refine tq 1 ?_
  try simp only [PT]
  refine ryy [2] ?_
  refine .cons rfl (fun K hK=>?_) .nil
  have aM:=hJ (BX.new bD.out bN.out)
  have z16_0:=aM.out.cell 0 rfl
  have y16_0:=aM.out.frozen 0
  have z16_1:=aM.out.cell 1 rfl
  have y16_1:=aM.out.frozen 1
  have z16_2:=aM.out.cell 2 rfl
  have y16_2:=aM.out.frozen 2
  have z16_3:=aM.out.cell 3 rfl
  have y16_3:=aM.out.frozen 3
  have z16:=aM.out.lt
  go_simp
  obtain ⟨v16,hV⟩:=nmz (World.setCell (World.setCell (World.setCell (World.setCell v15 ⟨g6,0,none⟩ (.int .i64 a1)) ⟨g6,1,none⟩ (.int .i64 a2)) ⟨g6,2,none⟩ (.int .i64 a3)) ⟨g6,3,none⟩ (.int .i64 a4))
  rw [hV]
  have bO:=hJ (show sto v15 g6 0 [.int .i64 a1,.int .i64 a2,.int .i64 a3,.int .i64 a4]=v16 from hV)
  clear hV z16 z16_0 y16_0 z16_1 y16_1 z16_2 y16_2 z16_3 y16_3
  have dY:=hJ (show Below w0.heap.size w0 v16 by rw [←bO.out]; exact below_sto (bt aG.out bN.out) aH.out _ _)
  have cI:=hJ (show BX 25 v16 g8 #[.int .i64 a1,.int .i64 a2,.int .i64 a3,.int .i64 a4] by rw [←bO.out]; exact BX.far (BX.new aB.out bN.out) (show g8≠g6 by omega) _ _)
  have cJ:=hJ (show BX 25 v16 g10 #[.int .i64 b1,.int .i64 b2,.int .i64 b1,.int .i64 (b2+1)] by rw [←bO.out]; exact BX.far (BX.new aC.out bN.out) (show g10≠g6 by omega) _ _)
  clear hHeld
  refine hK.out _ _ (⟨cI.out.cell 0 rfl,cI.out.cell 1 rfl,cI.out.cell 2 rfl,cI.out.cell 3 rfl,cJ.out.cell 0 rfl,cJ.out.cell 1 rfl,cJ.out.cell 2 rfl,cJ.out.cell 3 rfl,dY.out⟩) (fun hHeld=>?_)
  clear hK K
  try simp only [PT]
  refine ryy [3] ?_
  refine .cons rfl (fun K hK=>?_) .nil
  have aO:=hJ (show BX 25 v16 g7 #[y0,y1,y2,y3] by rw [←bO.out]; exact BX.far (BX.new bE.out bN.out) (show g7≠g6 by omega) _ _)
  have z17_0:=aO.out.cell 0 rfl
  have y17_0:=aO.out.frozen 0
  have z17_1:=aO.out.cell 1 rfl
  have y17_1:=aO.out.frozen 1
  have z17_2:=aO.out.cell 2 rfl
  have y17_2:=aO.out.frozen 2
  have z17_3:=aO.out.cell 3 rfl
  have y17_3:=aO.out.frozen 3
  have z17:=aO.out.lt
  go_simp
  obtain ⟨v17,hV⟩:=nmz (World.setCell (World.setCell (World.setCell (World.setCell v16 ⟨g7,0,none⟩ (.int .i64 b1)) ⟨g7,1,none⟩ (.int .i64 b2)) ⟨g7,2,none⟩ (.int .i64 b1)) ⟨g7,3,none⟩ (.int .i64 (b2+1)))
  rw [hV]
  have bP:=hJ (show sto v16 g7 0 [.int .i64 b1,.int .i64 b2,.int .i64 b1,.int .i64 (b2+1)]=v17 from hV)
  clear hV z17 z17_0 y17_0 z17_1 y17_1 z17_2 y17_2 z17_3 y17_3
  have fI:=hJ (show Below w0.heap.size w0 v17 by rw [←bP.out]; exact below_sto dY.out aI.out _ _)
  have cZ:=hJ (show BX 25 v17 g8 #[.int .i64 a1,.int .i64 a2,.int .i64 a3,.int .i64 a4] by rw [←bP.out]; exact BX.far (cI.out) (show g8≠g7 by omega) _ _)
  have dA:=hJ (show BX 25 v17 g10 #[.int .i64 b1,.int .i64 b2,.int .i64 b1,.int .i64 (b2+1)] by rw [←bP.out]; exact BX.far (cJ.out) (show g10≠g7 by omega) _ _)
  clear hHeld
  refine hK.out _ _ (⟨cZ.out.cell 0 rfl,cZ.out.cell 1 rfl,cZ.out.cell 2 rfl,cZ.out.cell 3 rfl,dA.out.cell 0 rfl,dA.out.cell 1 rfl,dA.out.cell 2 rfl,dA.out.cell 3 rfl,fI.out⟩) (fun hHeld=>?_)
  clear hK K
  try simp only [PT]
  refine wpAnyH_done (by kernel_rfl) ?_ _
  clear hHeld
  have fJ:=hJ (show BX 25 v16 g6 #[.int .i64 a1,.int .i64 a2,.int .i64 a3,.int .i64 a4] by rw [←bO.out]; exact BX.put aM.out _ _)
  have fK:=hJ (show BX 25 v17 g7 #[.int .i64 b1,.int .i64 b2,.int .i64 b1,.int .i64 (b2+1)] by rw [←bP.out]; exact BX.put aO.out _ _)
  have fL:=hJ (show BX 25 v17 g6 #[.int .i64 a1,.int .i64 a2,.int .i64 a3,.int .i64 a4] by rw [←bP.out]; exact BX.far fJ.out (show g6≠g7 by omega) _ _)
  have bA:=hJ (show Below w0.heap.size w0 v16 by rw [←bO.out]; exact below_sto (bt aG.out bN.out) aH.out _ _)
  have bF:=hJ (show Below w0.heap.size w0 v17 by rw [←bP.out]; exact below_sto bA.out aI.out _ _)
  go_wp2
  exact bodyPost_ret (results_cellP2 rfl _ _ _ _ _ _ _ _ _ _ _ _ rfl rfl fL.out fK.out Tryz.underlying25 rfl (by kernel_rfl) Tryz.underlying25 rfl (by kernel_rfl)) rfl ⟨_,_,_,_,_,_,_,_,rfl,bG.out,bB.out,bF.out⟩
 ·have bB:=hJ (show Sp b1 b2 b3 b4 by have h:=cW.out; unfold Tb at h; unfold Sp; omega)
  obtain ⟨dZ,eA⟩:=aA.out.c2 0 1 rfl rfl
  obtain ⟨eB,eC⟩:=aA.out.c2 2 3 rfl rfl
  obtain ⟨q2,hq2⟩:=nmz (t6.tmod 2)
  have ht6:=dL.out
  by_cases hz:q2=0
  ·obtain rfl:=hz
   obtain ⟨fM,fN⟩:=aA.out.c2 2 3 rfl rfl
   obtain ⟨fO,fP⟩:=aA.out.c2 0 1 rfl rfl
   have fQ:=aA.out.frozen 0
   have fR:=aA.out.cell 0 rfl
   have fS:=aA.out.frozen 1
   have fT:=aA.out.cell 1 rfl
   have fU:=aA.out.frozen 2
   have fV:=aA.out.cell 2 rfl
   have fW:=aA.out.frozen 3
   have fX:=aA.out.cell 3 rfl
   obtain ⟨x26,eD⟩:=nmz (World.setCell (World.setCell (World.setCell (World.setCell w ⟨g10,0,none⟩ (.int .i64 b3)) ⟨g10,1,none⟩ (.int .i64 b4)) ⟨g10,2,none⟩ (.int .i64 b1)) ⟨g10,3,none⟩ (.int .i64 b2))
   have cK:=hJ (show sto w g10 0 [.int .i64 b3,.int .i64 b4,.int .i64 b1,.int .i64 b2]=x26 from eD)
   have cL:=hJ (show BX 25 x26 g10 #[.int .i64 b3,.int .i64 b4,.int .i64 b1,.int .i64 b2] by rw [←cK.out]; exact BX.put aA.out _ _)
   have aB:=hJ (show BX 25 x26 g8 #[.int .i64 a1,.int .i64 a2,.int .i64 a3,.int .i64 a4] by rw [←cK.out]; exact BX.far aD.out (show g8≠g10 by omega) _ _)
   have aG:=hJ (show Below w0.heap.size w0 x26 by rw [←cK.out]; exact below_sto aJ.out cC.out _ _)
   have fY:Hid (∀ w',Below x26.heap.size x26 w'→(fun w':World=>w'.cell? ⟨g8,0,none⟩=some (.int .i64 a1)∧w'.cell? ⟨g8,1,none⟩=some (.int .i64 a2)∧w'.cell? ⟨g8,2,none⟩=some (.int .i64 a3)∧w'.cell? ⟨g8,3,none⟩=some (.int .i64 a4)∧w'.cell? ⟨g10,0,none⟩=some (.int .i64 b3)∧w'.cell? ⟨g10,1,none⟩=some (.int .i64 b4)∧w'.cell? ⟨g10,2,none⟩=some (.int .i64 b1)∧w'.cell? ⟨g10,3,none⟩=some (.int .i64 b2)∧Below w0.heap.size w0 w') w'):=hJ (fun w' hb=>⟨(BX.new aB.out hb).cell 0 rfl,(BX.new aB.out hb).cell 1 rfl,(BX.new aB.out hb).cell 2 rfl,(BX.new aB.out hb).cell 3 rfl,(BX.new cL.out hb).cell 0 rfl,(BX.new cL.out hb).cell 1 rfl,(BX.new cL.out hb).cell 2 rfl,(BX.new cL.out hb).cell 3 rfl,(bt aG.out hb)⟩)
   have bD:=hJ (show BX 25 x26 g6 #[z0,z1,z2,z3] by rw [←cK.out]; exact BX.far bH.out (show g6≠g10 by omega) _ _)
   have bE:=hJ (show BX 25 x26 g7 #[y0,y1,y2,y3] by rw [←cK.out]; exact BX.far bJ.out (show g7≠g10 by omega) _ _)
   go_wp2_with fail
   clear dZ eA eB eC ht6 fM fN fO fP fQ fR fS fT fU fV fW fX eD
   obtain ⟨v27,hv27⟩:=nmz (World.drew x26)
   have bQ:=hJ (show Below x26.heap.size x26 v27 by rw [←hv27]; exact (Below.refl _ _).drew)
   refine whd fY hv27 (fun hHeld=>?_)
   clear hv27
   refine tq 0 ?_
   refine tq 1 ?_
   try simp only [PT]
   refine ryy [2] ?_
   refine .cons rfl (fun K hK=>?_) .nil
   have aR:=hJ (BX.new bD.out bQ.out)
   have z28_0:=aR.out.cell 0 rfl
   have y28_0:=aR.out.frozen 0
   have z28_1:=aR.out.cell 1 rfl
   have y28_1:=aR.out.frozen 1
   have z28_2:=aR.out.cell 2 rfl
   have y28_2:=aR.out.frozen 2
   have z28_3:=aR.out.cell 3 rfl
   have y28_3:=aR.out.frozen 3
   have z28:=aR.out.lt
   go_simp
   obtain ⟨v28,hV⟩:=nmz (World.setCell (World.setCell (World.setCell (World.setCell v27 ⟨g6,0,none⟩ (.int .i64 a1)) ⟨g6,1,none⟩ (.int .i64 a2)) ⟨g6,2,none⟩ (.int .i64 a3)) ⟨g6,3,none⟩ (.int .i64 a4))
   rw [hV]
   have bR:=hJ (show sto v27 g6 0 [.int .i64 a1,.int .i64 a2,.int .i64 a3,.int .i64 a4]=v28 from hV)
   clear hV z28 z28_0 y28_0 z28_1 y28_1 z28_2 y28_2 z28_3 y28_3
   have eE:=hJ (show Below w0.heap.size w0 v28 by rw [←bR.out]; exact below_sto (bt aG.out bQ.out) aH.out _ _)
   have cM:=hJ (show BX 25 v28 g8 #[.int .i64 a1,.int .i64 a2,.int .i64 a3,.int .i64 a4] by rw [←bR.out]; exact BX.far (BX.new aB.out bQ.out) (show g8≠g6 by omega) _ _)
   have cN:=hJ (show BX 25 v28 g10 #[.int .i64 b3,.int .i64 b4,.int .i64 b1,.int .i64 b2] by rw [←bR.out]; exact BX.far (BX.new cL.out bQ.out) (show g10≠g6 by omega) _ _)
   clear hHeld
   refine hK.out _ _ (⟨cM.out.cell 0 rfl,cM.out.cell 1 rfl,cM.out.cell 2 rfl,cM.out.cell 3 rfl,cN.out.cell 0 rfl,cN.out.cell 1 rfl,cN.out.cell 2 rfl,cN.out.cell 3 rfl,eE.out⟩) (fun hHeld=>?_)
   clear hK K
   try simp only [PT]
   refine ryy [3] ?_
   refine .cons rfl (fun K hK=>?_) .nil
   have aS:=hJ (show BX 25 v28 g7 #[y0,y1,y2,y3] by rw [←bR.out]; exact BX.far (BX.new bE.out bQ.out) (show g7≠g6 by omega) _ _)
   have z29_0:=aS.out.cell 0 rfl
   have y29_0:=aS.out.frozen 0
   have z29_1:=aS.out.cell 1 rfl
   have y29_1:=aS.out.frozen 1
   have z29_2:=aS.out.cell 2 rfl
   have y29_2:=aS.out.frozen 2
   have z29_3:=aS.out.cell 3 rfl
   have y29_3:=aS.out.frozen 3
   have z29:=aS.out.lt
   go_simp
   obtain ⟨v29,hV⟩:=nmz (World.setCell (World.setCell (World.setCell (World.setCell v28 ⟨g7,0,none⟩ (.int .i64 b3)) ⟨g7,1,none⟩ (.int .i64 b4)) ⟨g7,2,none⟩ (.int .i64 b1)) ⟨g7,3,none⟩ (.int .i64 b2))
   rw [hV]
   have bS:=hJ (show sto v28 g7 0 [.int .i64 b3,.int .i64 b4,.int .i64 b1,.int .i64 b2]=v29 from hV)
   clear hV z29 z29_0 y29_0 z29_1 y29_1 z29_2 y29_2 z29_3 y29_3
   have fZ:=hJ (show Below w0.heap.size w0 v29 by rw [←bS.out]; exact below_sto eE.out aI.out _ _)
   have dB:=hJ (show BX 25 v29 g8 #[.int .i64 a1,.int .i64 a2,.int .i64 a3,.int .i64 a4] by rw [←bS.out]; exact BX.far (cM.out) (show g8≠g7 by omega) _ _)
   have dD:=hJ (show BX 25 v29 g10 #[.int .i64 b3,.int .i64 b4,.int .i64 b1,.int .i64 b2] by rw [←bS.out]; exact BX.far (cN.out) (show g10≠g7 by omega) _ _)
   clear hHeld
   refine hK.out _ _ (⟨dB.out.cell 0 rfl,dB.out.cell 1 rfl,dB.out.cell 2 rfl,dB.out.cell 3 rfl,dD.out.cell 0 rfl,dD.out.cell 1 rfl,dD.out.cell 2 rfl,dD.out.cell 3 rfl,fZ.out⟩) (fun hHeld=>?_)
   clear hK K
   try simp only [PT]
   refine wpAnyH_done (by kernel_rfl) ?_ _
   clear hHeld
   have gA:=hJ (show BX 25 v28 g6 #[.int .i64 a1,.int .i64 a2,.int .i64 a3,.int .i64 a4] by rw [←bR.out]; exact BX.put aR.out _ _)
   have gB:=hJ (show BX 25 v29 g7 #[.int .i64 b3,.int .i64 b4,.int .i64 b1,.int .i64 b2] by rw [←bS.out]; exact BX.put aS.out _ _)
   have gC:=hJ (show BX 25 v29 g6 #[.int .i64 a1,.int .i64 a2,.int .i64 a3,.int .i64 a4] by rw [←bS.out]; exact BX.far gA.out (show g6≠g7 by omega) _ _)
   have bA:=hJ (show Below w0.heap.size w0 v28 by rw [←bR.out]; exact below_sto (bt aG.out bQ.out) aH.out _ _)
   have bF:=hJ (show Below w0.heap.size w0 v29 by rw [←bS.out]; exact below_sto bA.out aI.out _ _)
   go_wp2
   exact bodyPost_ret (results_cellP2 rfl _ _ _ _ _ _ _ _ _ _ _ _ rfl rfl gC.out gB.out Tryz.underlying25 rfl (by kernel_rfl) Tryz.underlying25 rfl (by kernel_rfl)) rfl ⟨_,_,_,_,_,_,_,_,rfl,bG.out,(sp_sw bB.out),bF.out⟩
  have hqz:(q2 == 0)=false:=by simp [hz]
  clear hz
  have gD:Hid (∀ w',Below w.heap.size w w'→(fun w':World=>w'.cell? ⟨g8,0,none⟩=some (.int .i64 a1)∧w'.cell? ⟨g8,1,none⟩=some (.int .i64 a2)∧w'.cell? ⟨g8,2,none⟩=some (.int .i64 a3)∧w'.cell? ⟨g8,3,none⟩=some (.int .i64 a4)∧w'.cell? ⟨g10,0,none⟩=some (.int .i64 b1)∧w'.cell? ⟨g10,1,none⟩=some (.int .i64 b2)∧w'.cell? ⟨g10,2,none⟩=some (.int .i64 b3)∧w'.cell? ⟨g10,3,none⟩=some (.int .i64 b4)∧Below w0.heap.size w0 w') w'):=hJ (fun w' hb=>⟨(BX.new aD.out hb).cell 0 rfl,(BX.new aD.out hb).cell 1 rfl,(BX.new aD.out hb).cell 2 rfl,(BX.new aD.out hb).cell 3 rfl,(BX.new aA.out hb).cell 0 rfl,(BX.new aA.out hb).cell 1 rfl,(BX.new aA.out hb).cell 2 rfl,(BX.new aA.out hb).cell 3 rfl,(bt aJ.out hb)⟩)
  go_wp2_with fail
  clear dZ eA eB eC ht6
  obtain ⟨v30,hv30⟩:=nmz (World.drew w)
  have bT:=hJ (show Below w.heap.size w v30 by rw [←hv30]; exact (Below.refl _ _).drew)
  refine whd gD hv30 (fun hHeld=>?_)
  clear hv30
  refine tq 0 ?_
  refine tq 1 ?_
  try simp only [PT]
  refine ryy [2] ?_
  refine .cons rfl (fun K hK=>?_) .nil
  have aT:=hJ (BX.new bH.out bT.out)
  have z31_0:=aT.out.cell 0 rfl
  have y31_0:=aT.out.frozen 0
  have z31_1:=aT.out.cell 1 rfl
  have y31_1:=aT.out.frozen 1
  have z31_2:=aT.out.cell 2 rfl
  have y31_2:=aT.out.frozen 2
  have z31_3:=aT.out.cell 3 rfl
  have y31_3:=aT.out.frozen 3
  have z31:=aT.out.lt
  go_simp
  obtain ⟨v31,hV⟩:=nmz (World.setCell (World.setCell (World.setCell (World.setCell v30 ⟨g6,0,none⟩ (.int .i64 a1)) ⟨g6,1,none⟩ (.int .i64 a2)) ⟨g6,2,none⟩ (.int .i64 a3)) ⟨g6,3,none⟩ (.int .i64 a4))
  rw [hV]
  have bU:=hJ (show sto v30 g6 0 [.int .i64 a1,.int .i64 a2,.int .i64 a3,.int .i64 a4]=v31 from hV)
  clear hV z31 z31_0 y31_0 z31_1 y31_1 z31_2 y31_2 z31_3 y31_3
  have eF:=hJ (show Below w0.heap.size w0 v31 by rw [←bU.out]; exact below_sto (bt aJ.out bT.out) aH.out _ _)
  have cO:=hJ (show BX 25 v31 g8 #[.int .i64 a1,.int .i64 a2,.int .i64 a3,.int .i64 a4] by rw [←bU.out]; exact BX.far (BX.new aD.out bT.out) (show g8≠g6 by omega) _ _)
  have cP:=hJ (show BX 25 v31 g10 #[.int .i64 b1,.int .i64 b2,.int .i64 b3,.int .i64 b4] by rw [←bU.out]; exact BX.far (BX.new aA.out bT.out) (show g10≠g6 by omega) _ _)
  clear hHeld
  refine hK.out _ _ (⟨cO.out.cell 0 rfl,cO.out.cell 1 rfl,cO.out.cell 2 rfl,cO.out.cell 3 rfl,cP.out.cell 0 rfl,cP.out.cell 1 rfl,cP.out.cell 2 rfl,cP.out.cell 3 rfl,eF.out⟩) (fun hHeld=>?_)
  clear hK K
  try simp only [PT]
  refine ryy [3] ?_
  refine .cons rfl (fun K hK=>?_) .nil
  have aU:=hJ (show BX 25 v31 g7 #[y0,y1,y2,y3] by rw [←bU.out]; exact BX.far (BX.new bJ.out bT.out) (show g7≠g6 by omega) _ _)
  have z32_0:=aU.out.cell 0 rfl
  have y32_0:=aU.out.frozen 0
  have z32_1:=aU.out.cell 1 rfl
  have y32_1:=aU.out.frozen 1
  have z32_2:=aU.out.cell 2 rfl
  have y32_2:=aU.out.frozen 2
  have z32_3:=aU.out.cell 3 rfl
  have y32_3:=aU.out.frozen 3
  have z32:=aU.out.lt
  go_simp
  obtain ⟨v32,hV⟩:=nmz (World.setCell (World.setCell (World.setCell (World.setCell v31 ⟨g7,0,none⟩ (.int .i64 b1)) ⟨g7,1,none⟩ (.int .i64 b2)) ⟨g7,2,none⟩ (.int .i64 b3)) ⟨g7,3,none⟩ (.int .i64 b4))
  rw [hV]
  have bV:=hJ (show sto v31 g7 0 [.int .i64 b1,.int .i64 b2,.int .i64 b3,.int .i64 b4]=v32 from hV)
  clear hV z32 z32_0 y32_0 z32_1 y32_1 z32_2 y32_2 z32_3 y32_3
  have gE:=hJ (show Below w0.heap.size w0 v32 by rw [←bV.out]; exact below_sto eF.out aI.out _ _)
  have dE:=hJ (show BX 25 v32 g8 #[.int .i64 a1,.int .i64 a2,.int .i64 a3,.int .i64 a4] by rw [←bV.out]; exact BX.far (cO.out) (show g8≠g7 by omega) _ _)
  have dG:=hJ (show BX 25 v32 g10 #[.int .i64 b1,.int .i64 b2,.int .i64 b3,.int .i64 b4] by rw [←bV.out]; exact BX.far (cP.out) (show g10≠g7 by omega) _ _)
  clear hHeld
  refine hK.out _ _ (⟨dE.out.cell 0 rfl,dE.out.cell 1 rfl,dE.out.cell 2 rfl,dE.out.cell 3 rfl,dG.out.cell 0 rfl,dG.out.cell 1 rfl,dG.out.cell 2 rfl,dG.out.cell 3 rfl,gE.out⟩) (fun hHeld=>?_)
  clear hK K
  try simp only [PT]
  refine wpAnyH_done (by kernel_rfl) ?_ _
  clear hHeld
  have gF:=hJ (show BX 25 v31 g6 #[.int .i64 a1,.int .i64 a2,.int .i64 a3,.int .i64 a4] by rw [←bU.out]; exact BX.put aT.out _ _)
  have gG:=hJ (show BX 25 v32 g7 #[.int .i64 b1,.int .i64 b2,.int .i64 b3,.int .i64 b4] by rw [←bV.out]; exact BX.put aU.out _ _)
  have gH:=hJ (show BX 25 v32 g6 #[.int .i64 a1,.int .i64 a2,.int .i64 a3,.int .i64 a4] by rw [←bV.out]; exact BX.far gF.out (show g6≠g7 by omega) _ _)
  have bC:=hJ (show Below w0.heap.size w0 v31 by rw [←bU.out]; exact below_sto (bt aJ.out bT.out) aH.out _ _)
  have bA:=hJ (show Below w0.heap.size w0 v32 by rw [←bV.out]; exact below_sto bC.out aI.out _ _)
  go_wp2
  exact bodyPost_ret (results_cellP2 rfl _ _ _ _ _ _ _ _ _ _ _ _ rfl rfl gH.out gG.out Tryz.underlying25 rfl (by kernel_rfl) Tryz.underlying25 rfl (by kernel_rfl)) rfl ⟨_,_,_,_,_,_,_,_,rfl,bG.out,bB.out,bA.out⟩
 ·obtain rfl:=hc
  have bB:=hJ (show Sp b1 b2 b1 b4 by have h:=cW.out; unfold Tb at h; unfold Sp; omega)
  obtain ⟨eG,eH⟩:=aA.out.c2 0 1 rfl rfl
  obtain ⟨eI,eJ⟩:=aA.out.c2 2 3 rfl rfl
  obtain ⟨q2,hq2⟩:=nmz (t6.tmod 2)
  have ht6:=dL.out
  by_cases hz:q2=0
  ·obtain rfl:=hz
   obtain ⟨gI,gJ⟩:=aA.out.c2 2 3 rfl rfl
   obtain ⟨gK,gL⟩:=aA.out.c2 0 1 rfl rfl
   have gM:=aA.out.frozen 0
   have gN:=aA.out.cell 0 rfl
   have gO:=aA.out.frozen 1
   have gP:=aA.out.cell 1 rfl
   have gQ:=aA.out.frozen 2
   have gR:=aA.out.cell 2 rfl
   have gS:=aA.out.frozen 3
   have gT:=aA.out.cell 3 rfl
   obtain ⟨x41,eK⟩:=nmz (World.setCell (World.setCell (World.setCell (World.setCell w ⟨g10,0,none⟩ (.int .i64 b1)) ⟨g10,1,none⟩ (.int .i64 b4)) ⟨g10,2,none⟩ (.int .i64 b1)) ⟨g10,3,none⟩ (.int .i64 b2))
   have cQ:=hJ (show sto w g10 0 [.int .i64 b1,.int .i64 b4,.int .i64 b1,.int .i64 b2]=x41 from eK)
   have cR:=hJ (show BX 25 x41 g10 #[.int .i64 b1,.int .i64 b4,.int .i64 b1,.int .i64 b2] by rw [←cQ.out]; exact BX.put aA.out _ _)
   have aB:=hJ (show BX 25 x41 g8 #[.int .i64 a1,.int .i64 a2,.int .i64 a3,.int .i64 a4] by rw [←cQ.out]; exact BX.far aD.out (show g8≠g10 by omega) _ _)
   have aG:=hJ (show Below w0.heap.size w0 x41 by rw [←cQ.out]; exact below_sto aJ.out cC.out _ _)
   have gU:Hid (∀ w',Below x41.heap.size x41 w'→(fun w':World=>w'.cell? ⟨g8,0,none⟩=some (.int .i64 a1)∧w'.cell? ⟨g8,1,none⟩=some (.int .i64 a2)∧w'.cell? ⟨g8,2,none⟩=some (.int .i64 a3)∧w'.cell? ⟨g8,3,none⟩=some (.int .i64 a4)∧w'.cell? ⟨g10,0,none⟩=some (.int .i64 b1)∧w'.cell? ⟨g10,1,none⟩=some (.int .i64 b4)∧w'.cell? ⟨g10,2,none⟩=some (.int .i64 b1)∧w'.cell? ⟨g10,3,none⟩=some (.int .i64 b2)∧Below w0.heap.size w0 w') w'):=hJ (fun w' hb=>⟨(BX.new aB.out hb).cell 0 rfl,(BX.new aB.out hb).cell 1 rfl,(BX.new aB.out hb).cell 2 rfl,(BX.new aB.out hb).cell 3 rfl,(BX.new cR.out hb).cell 0 rfl,(BX.new cR.out hb).cell 1 rfl,(BX.new cR.out hb).cell 2 rfl,(BX.new cR.out hb).cell 3 rfl,(bt aG.out hb)⟩)
   have bD:=hJ (show BX 25 x41 g6 #[z0,z1,z2,z3] by rw [←cQ.out]; exact BX.far bH.out (show g6≠g10 by omega) _ _)
   have bE:=hJ (show BX 25 x41 g7 #[y0,y1,y2,y3] by rw [←cQ.out]; exact BX.far bJ.out (show g7≠g10 by omega) _ _)
   go_wp2_with fail
   clear eG eH eI eJ ht6 gI gJ gK gL gM gN gO gP gQ gR gS gT eK
   obtain ⟨v42,hv42⟩:=nmz (World.drew x41)
   have bW:=hJ (show Below x41.heap.size x41 v42 by rw [←hv42]; exact (Below.refl _ _).drew)
   refine whd gU hv42 (fun hHeld=>?_)
   clear hv42
   refine tq 0 ?_
   refine tq 1 ?_
   try simp only [PT]
   refine ryy [2] ?_
   refine .cons rfl (fun K hK=>?_) .nil
   have aV:=hJ (BX.new bD.out bW.out)
   have z43_0:=aV.out.cell 0 rfl
   have y43_0:=aV.out.frozen 0
   have z43_1:=aV.out.cell 1 rfl
   have y43_1:=aV.out.frozen 1
   have z43_2:=aV.out.cell 2 rfl
   have y43_2:=aV.out.frozen 2
   have z43_3:=aV.out.cell 3 rfl
   have y43_3:=aV.out.frozen 3
   have z43:=aV.out.lt
   go_simp
   obtain ⟨v43,hV⟩:=nmz (World.setCell (World.setCell (World.setCell (World.setCell v42 ⟨g6,0,none⟩ (.int .i64 a1)) ⟨g6,1,none⟩ (.int .i64 a2)) ⟨g6,2,none⟩ (.int .i64 a3)) ⟨g6,3,none⟩ (.int .i64 a4))
   rw [hV]
   have bX:=hJ (show sto v42 g6 0 [.int .i64 a1,.int .i64 a2,.int .i64 a3,.int .i64 a4]=v43 from hV)
   clear hV z43 z43_0 y43_0 z43_1 y43_1 z43_2 y43_2 z43_3 y43_3
   have eL:=hJ (show Below w0.heap.size w0 v43 by rw [←bX.out]; exact below_sto (bt aG.out bW.out) aH.out _ _)
   have cS:=hJ (show BX 25 v43 g8 #[.int .i64 a1,.int .i64 a2,.int .i64 a3,.int .i64 a4] by rw [←bX.out]; exact BX.far (BX.new aB.out bW.out) (show g8≠g6 by omega) _ _)
   have cT:=hJ (show BX 25 v43 g10 #[.int .i64 b1,.int .i64 b4,.int .i64 b1,.int .i64 b2] by rw [←bX.out]; exact BX.far (BX.new cR.out bW.out) (show g10≠g6 by omega) _ _)
   clear hHeld
   refine hK.out _ _ (⟨cS.out.cell 0 rfl,cS.out.cell 1 rfl,cS.out.cell 2 rfl,cS.out.cell 3 rfl,cT.out.cell 0 rfl,cT.out.cell 1 rfl,cT.out.cell 2 rfl,cT.out.cell 3 rfl,eL.out⟩) (fun hHeld=>?_)
   clear hK K
   try simp only [PT]
   refine ryy [3] ?_
   refine .cons rfl (fun K hK=>?_) .nil
   have aW:=hJ (show BX 25 v43 g7 #[y0,y1,y2,y3] by rw [←bX.out]; exact BX.far (BX.new bE.out bW.out) (show g7≠g6 by omega) _ _)
   have z44_0:=aW.out.cell 0 rfl
   have y44_0:=aW.out.frozen 0
   have z44_1:=aW.out.cell 1 rfl
   have y44_1:=aW.out.frozen 1
   have z44_2:=aW.out.cell 2 rfl
   have y44_2:=aW.out.frozen 2
   have z44_3:=aW.out.cell 3 rfl
   have y44_3:=aW.out.frozen 3
   have z44:=aW.out.lt
   go_simp
   obtain ⟨v44,hV⟩:=nmz (World.setCell (World.setCell (World.setCell (World.setCell v43 ⟨g7,0,none⟩ (.int .i64 b1)) ⟨g7,1,none⟩ (.int .i64 b4)) ⟨g7,2,none⟩ (.int .i64 b1)) ⟨g7,3,none⟩ (.int .i64 b2))
   rw [hV]
   have bY:=hJ (show sto v43 g7 0 [.int .i64 b1,.int .i64 b4,.int .i64 b1,.int .i64 b2]=v44 from hV)
   clear hV z44 z44_0 y44_0 z44_1 y44_1 z44_2 y44_2 z44_3 y44_3
   have gV:=hJ (show Below w0.heap.size w0 v44 by rw [←bY.out]; exact below_sto eL.out aI.out _ _)
   have dH:=hJ (show BX 25 v44 g8 #[.int .i64 a1,.int .i64 a2,.int .i64 a3,.int .i64 a4] by rw [←bY.out]; exact BX.far (cS.out) (show g8≠g7 by omega) _ _)
   have dI:=hJ (show BX 25 v44 g10 #[.int .i64 b1,.int .i64 b4,.int .i64 b1,.int .i64 b2] by rw [←bY.out]; exact BX.far (cT.out) (show g10≠g7 by omega) _ _)
   clear hHeld
   refine hK.out _ _ (⟨dH.out.cell 0 rfl,dH.out.cell 1 rfl,dH.out.cell 2 rfl,dH.out.cell 3 rfl,dI.out.cell 0 rfl,dI.out.cell 1 rfl,dI.out.cell 2 rfl,dI.out.cell 3 rfl,gV.out⟩) (fun hHeld=>?_)
   clear hK K
   try simp only [PT]
   refine wpAnyH_done (by kernel_rfl) ?_ _
   clear hHeld
   have gW:=hJ (show BX 25 v43 g6 #[.int .i64 a1,.int .i64 a2,.int .i64 a3,.int .i64 a4] by rw [←bX.out]; exact BX.put aV.out _ _)
   have gX:=hJ (show BX 25 v44 g7 #[.int .i64 b1,.int .i64 b4,.int .i64 b1,.int .i64 b2] by rw [←bY.out]; exact BX.put aW.out _ _)
   have gY:=hJ (show BX 25 v44 g6 #[.int .i64 a1,.int .i64 a2,.int .i64 a3,.int .i64 a4] by rw [←bY.out]; exact BX.far gW.out (show g6≠g7 by omega) _ _)
   have bA:=hJ (show Below w0.heap.size w0 v43 by rw [←bX.out]; exact below_sto (bt aG.out bW.out) aH.out _ _)
   have bF:=hJ (show Below w0.heap.size w0 v44 by rw [←bY.out]; exact below_sto bA.out aI.out _ _)
   go_wp2
   exact bodyPost_ret (results_cellP2 rfl _ _ _ _ _ _ _ _ _ _ _ _ rfl rfl gY.out gX.out Tryz.underlying25 rfl (by kernel_rfl) Tryz.underlying25 rfl (by kernel_rfl)) rfl ⟨_,_,_,_,_,_,_,_,rfl,bG.out,(sp_sw bB.out),bF.out⟩
  ·have hqz:(q2 == 0)=false:=by simp [hz]
   clear hz
   have gZ:Hid (∀ w',Below w.heap.size w w'→(fun w':World=>w'.cell? ⟨g8,0,none⟩=some (.int .i64 a1)∧w'.cell? ⟨g8,1,none⟩=some (.int .i64 a2)∧w'.cell? ⟨g8,2,none⟩=some (.int .i64 a3)∧w'.cell? ⟨g8,3,none⟩=some (.int .i64 a4)∧w'.cell? ⟨g10,0,none⟩=some (.int .i64 b1)∧w'.cell? ⟨g10,1,none⟩=some (.int .i64 b2)∧w'.cell? ⟨g10,2,none⟩=some (.int .i64 b1)∧w'.cell? ⟨g10,3,none⟩=some (.int .i64 b4)∧Below w0.heap.size w0 w') w'):=hJ (fun w' hb=>⟨(BX.new aD.out hb).cell 0 rfl,(BX.new aD.out hb).cell 1 rfl,(BX.new aD.out hb).cell 2 rfl,(BX.new aD.out hb).cell 3 rfl,(BX.new aA.out hb).cell 0 rfl,(BX.new aA.out hb).cell 1 rfl,(BX.new aA.out hb).cell 2 rfl,(BX.new aA.out hb).cell 3 rfl,(bt aJ.out hb)⟩)
   go_wp2_with fail
   clear eG eH eI eJ ht6
   obtain ⟨v45,hv45⟩:=nmz (World.drew w)
   have bZ:=hJ (show Below w.heap.size w v45 by rw [←hv45]; exact (Below.refl _ _).drew)
   refine whd gZ hv45 (fun hHeld=>?_)
   clear hv45
   refine tq 0 ?_
   refine tq 1 ?_
   try simp only [PT]
   refine ryy [2] ?_
   refine .cons rfl (fun K hK=>?_) .nil
   have aX:=hJ (BX.new bH.out bZ.out)
   have z46_0:=aX.out.cell 0 rfl
   have y46_0:=aX.out.frozen 0
   have z46_1:=aX.out.cell 1 rfl
   have y46_1:=aX.out.frozen 1
   have z46_2:=aX.out.cell 2 rfl
   have y46_2:=aX.out.frozen 2
   have z46_3:=aX.out.cell 3 rfl
   have y46_3:=aX.out.frozen 3
   have z46:=aX.out.lt
   go_simp
   obtain ⟨v46,hV⟩:=nmz (World.setCell (World.setCell (World.setCell (World.setCell v45 ⟨g6,0,none⟩ (.int .i64 a1)) ⟨g6,1,none⟩ (.int .i64 a2)) ⟨g6,2,none⟩ (.int .i64 a3)) ⟨g6,3,none⟩ (.int .i64 a4))
   rw [hV]
   have cA:=hJ (show sto v45 g6 0 [.int .i64 a1,.int .i64 a2,.int .i64 a3,.int .i64 a4]=v46 from hV)
   clear hV z46 z46_0 y46_0 z46_1 y46_1 z46_2 y46_2 z46_3 y46_3
   have eM:=hJ (show Below w0.heap.size w0 v46 by rw [←cA.out]; exact below_sto (bt aJ.out bZ.out) aH.out _ _)
   have cU:=hJ (show BX 25 v46 g8 #[.int .i64 a1,.int .i64 a2,.int .i64 a3,.int .i64 a4] by rw [←cA.out]; exact BX.far (BX.new aD.out bZ.out) (show g8≠g6 by omega) _ _)
   have cV:=hJ (show BX 25 v46 g10 #[.int .i64 b1,.int .i64 b2,.int .i64 b1,.int .i64 b4] by rw [←cA.out]; exact BX.far (BX.new aA.out bZ.out) (show g10≠g6 by omega) _ _)
   clear hHeld
   refine hK.out _ _ (⟨cU.out.cell 0 rfl,cU.out.cell 1 rfl,cU.out.cell 2 rfl,cU.out.cell 3 rfl,cV.out.cell 0 rfl,cV.out.cell 1 rfl,cV.out.cell 2 rfl,cV.out.cell 3 rfl,eM.out⟩) (fun hHeld=>?_)
   clear hK K
   try simp only [PT]
   refine ryy [3] ?_
   refine .cons rfl (fun K hK=>?_) .nil
   have aY:=hJ (show BX 25 v46 g7 #[y0,y1,y2,y3] by rw [←cA.out]; exact BX.far (BX.new bJ.out bZ.out) (show g7≠g6 by omega) _ _)
   have z47_0:=aY.out.cell 0 rfl
   have y47_0:=aY.out.frozen 0
   have z47_1:=aY.out.cell 1 rfl
   have y47_1:=aY.out.frozen 1
   have z47_2:=aY.out.cell 2 rfl
   have y47_2:=aY.out.frozen 2
   have z47_3:=aY.out.cell 3 rfl
   have y47_3:=aY.out.frozen 3
   have z47:=aY.out.lt
   go_simp
   obtain ⟨v47,hV⟩:=nmz (World.setCell (World.setCell (World.setCell (World.setCell v46 ⟨g7,0,none⟩ (.int .i64 b1)) ⟨g7,1,none⟩ (.int .i64 b2)) ⟨g7,2,none⟩ (.int .i64 b1)) ⟨g7,3,none⟩ (.int .i64 b4))
   rw [hV]
   have cB:=hJ (show sto v46 g7 0 [.int .i64 b1,.int .i64 b2,.int .i64 b1,.int .i64 b4]=v47 from hV)
   clear hV z47 z47_0 y47_0 z47_1 y47_1 z47_2 y47_2 z47_3 y47_3
   have hA:=hJ (show Below w0.heap.size w0 v47 by rw [←cB.out]; exact below_sto eM.out aI.out _ _)
   have dJ:=hJ (show BX 25 v47 g8 #[.int .i64 a1,.int .i64 a2,.int .i64 a3,.int .i64 a4] by rw [←cB.out]; exact BX.far (cU.out) (show g8≠g7 by omega) _ _)
   have dK:=hJ (show BX 25 v47 g10 #[.int .i64 b1,.int .i64 b2,.int .i64 b1,.int .i64 b4] by rw [←cB.out]; exact BX.far (cV.out) (show g10≠g7 by omega) _ _)
   clear hHeld
   refine hK.out _ _ (⟨dJ.out.cell 0 rfl,dJ.out.cell 1 rfl,dJ.out.cell 2 rfl,dJ.out.cell 3 rfl,dK.out.cell 0 rfl,dK.out.cell 1 rfl,dK.out.cell 2 rfl,dK.out.cell 3 rfl,hA.out⟩) (fun hHeld=>?_)
   clear hK K
   try simp only [PT]
   refine wpAnyH_done (by kernel_rfl) ?_ _
   clear hHeld
   have hB:=hJ (show BX 25 v46 g6 #[.int .i64 a1,.int .i64 a2,.int .i64 a3,.int .i64 a4] by rw [←cA.out]; exact BX.put aX.out _ _)
   have hC:=hJ (show BX 25 v47 g7 #[.int .i64 b1,.int .i64 b2,.int .i64 b1,.int .i64 b4] by rw [←cB.out]; exact BX.put aY.out _ _)
   have hD:=hJ (show BX 25 v47 g6 #[.int .i64 a1,.int .i64 a2,.int .i64 a3,.int .i64 a4] by rw [←cB.out]; exact BX.far hB.out (show g6≠g7 by omega) _ _)
   have bC:=hJ (show Below w0.heap.size w0 v46 by rw [←cA.out]; exact below_sto (bt aJ.out bZ.out) aH.out _ _)
   have bA:=hJ (show Below w0.heap.size w0 v47 by rw [←cB.out]; exact below_sto bC.out aI.out _ _)
   go_wp2
   exact bodyPost_ret (results_cellP2 rfl _ _ _ _ _ _ _ _ _ _ _ _ rfl rfl hD.out hC.out Tryz.underlying25 rfl (by kernel_rfl) Tryz.underlying25 rfl (by kernel_rfl)) rfl ⟨_,_,_,_,_,_,_,_,rfl,bG.out,bB.out,bA.out⟩
set_option maxRecDepth 100000 in
set_option maxHeartbeats 12800000 in
theorem rpair_any (n m k:Int) (w:World) (hw:(Lit.int .i64 n).wf=true∧(Lit.int .i64 m).wf=true∧(Lit.int .i64 k).wf=true) :
  Calls Tryz.prog 11 #[.int .i64 n,.int .i64 m,.int .i64 k] w (fun e w'=>∃ ax ay bx by' cx cy dx dy,e=.returned (.tuple #[(.agg #[.int .i64 ax,.int .i64 ay,.int .i64 bx,.int .i64 by']),(.agg #[.int .i64 cx,.int .i64 cy,.int .i64 dx,.int .i64 dy])])∧Sp ax ay bx by'∧Sp cx cy dx dy∧Below w.heap.size w w'):=by
 have bQ:=hJ hw
 clear hw
 obtain ⟨j,hj⟩:=nmz (aroundZ k 1048576)
 have HJ:=hJ hj
 clear hj
 obtain ⟨t6,ht6⟩:=nmz (IntKind.i64.wrap (j.tdiv 6))
 have bD:=hJ ht6
 have cI:=hJ (show (Lit.int .i64 t6).wf=true by rw [←ht6]; exact wf_wrap .i64 _)
 clear ht6
 obtain ⟨n7,hn7⟩:=nmz (IntKind.i64.wrap (n.tdiv 7))
 have cJ:=hJ hn7
 clear hn7
 obtain ⟨j1,hj1⟩:=nmz (IntKind.i64.wrap (j.tdiv 100))
 have cK:=hJ hj1
 clear hj1
 obtain ⟨sm,hsm⟩:=nmz (IntKind.i64.wrap (n7+j1))
 have cL:=hJ hsm
 have cM:=hJ (show (Lit.int .i64 sm).wf=true by rw [←hsm]; exact wf_wrap .i64 _)
 clear hsm
 obtain ⟨r,hr⟩:=nmz (j.tmod 6)
 have HR:=hJ hr
 clear hr
 obtain ⟨x1,bK⟩:=nmz ((w.alloc (.cells #[.int .i64 0,.int .i64 0,.int .i64 0,.int .i64 0] 25)).alloc (.cells #[.int .i64 0,.int .i64 0,.int .i64 0,.int .i64 0] 25))
 have aO:=hJ (show Below w.heap.size w x1 by rw [←bK]; exact (((Below.refl _ _).alloc (Nat.le_refl _) _).alloc (by simp only [World.size_alloc]; omega) _))
 have bE:=hJ (show BX 25 x1 w.heap.size #[.int .i64 0,.int .i64 0,.int .i64 0,.int .i64 0] by rw [←bK]; exact ((BX.at rfl).alloc _))
 have bH:=hJ (show w.heap.size≤w.heap.size by omega)
 have aT:=hJ (show w.heap.size < x1.heap.size from bE.out.lt)
 have bF:=hJ (show BX 25 x1 (w.heap.size+1) #[.int .i64 0,.int .i64 0,.int .i64 0,.int .i64 0] by rw [←bK]; exact (BX.at (by simp only [World.size_alloc])))
 have bJ:=hJ (show w.heap.size≤w.heap.size+1 by omega)
 have aU:=hJ (show w.heap.size+1 < x1.heap.size from bF.out.lt)
 go_enter Tryz.func11,Tryz.ntmps11
 go_wp2_with fail
 clear bK
 refine (rseg_any n m x1 bQ.out.1 bQ.out.2.1).mono ?_
 rintro e w2 ⟨ax,ay,bx,by',rfl,hsg,hb⟩
 have aA:=hJ hb
 clear hb
 have aG:=hJ hsg
 clear hsg
 obtain ⟨x3,bR⟩:=nmz (w2.alloc (.cells #[.int .i64 ax,.int .i64 ay,.int .i64 bx,.int .i64 by'] 25))
 have aJ:=hJ (show Below w2.heap.size w2 x3 by rw [←bR]; exact ((Below.refl _ _).alloc (Nat.le_refl _) _))
 have bG:=hJ (show BX 25 x3 w2.heap.size #[.int .i64 ax,.int .i64 ay,.int .i64 bx,.int .i64 by'] by rw [←bR]; exact (BX.at rfl))
 have aL:=hJ (show w2.heap.size≤w2.heap.size by omega)
 have aV:=hJ (show w2.heap.size < x3.heap.size from bG.out.lt)
 go_wp2_with fail
 clear bR
 refine (aroundz_any k 1048576 x3 (by decide) (by decide) bQ.out.2.2).mono ?_
 rw [HJ.out]
 rintro e w4 ⟨rfl,rfl⟩
 have ht6:=bD.out
 have hn7:=cJ.out
 have hj1:=cK.out
 have hsm:=cL.out
 go_wp2_with fail
 clear ht6 hn7 hj1 hsm
 refine (rseg_any t6 sm x3 cI.out cM.out).mono ?_
 rintro e w5 ⟨cx,cy,dx,dy,rfl,hsg,hb⟩
 have aB:=hJ hb
 clear hb
 have aW:=hJ hsg
 clear hsg
 have hr:=HR.out
 obtain ⟨x6,bB⟩:=nmz (w5.alloc (.cells #[.int .i64 cx,.int .i64 cy,.int .i64 dx,.int .i64 dy] 25))
 have aM:=hJ (show Below w5.heap.size w5 x6 by rw [←bB]; exact ((Below.refl _ _).alloc (Nat.le_refl _) _))
 have aD:=hJ (show BX 25 x6 w5.heap.size #[.int .i64 cx,.int .i64 cy,.int .i64 dx,.int .i64 dy] by rw [←bB]; exact (BX.at rfl))
 have aC:=hJ (show w5.heap.size≤w5.heap.size by omega)
 rcases (show r=0∨r=1∨r=2∨r=3∨(r≠0∧r≠1∧r≠2∧r≠3) by omega) with hc | hc | hc | hc | hc
 ·obtain rfl:=hc
  have aY:=hJ (bt aB.out aM.out)
  have aI:=hJ (BX.new bG.out aY.out)
  obtain ⟨cN,cO⟩:=aI.out.c2 0 1 rfl rfl
  have cP:=aD.out.frozen 0
  have cQ:=aD.out.cell 0 rfl
  have cR:=aD.out.frozen 1
  have cS:=aD.out.cell 1 rfl
  obtain ⟨x9,bS⟩:=nmz (World.setCell (World.setCell x6 ⟨w5.heap.size,0,none⟩ (.int .i64 ax)) ⟨w5.heap.size,1,none⟩ (.int .i64 ay))
  have bL:=hJ (show sto x6 w5.heap.size 0 [.int .i64 ax,.int .i64 ay]=x9 from bS)
  have bT:=hJ (show BX 25 x9 w5.heap.size #[.int .i64 ax,.int .i64 ay,.int .i64 dx,.int .i64 dy] by rw [←bL.out]; exact BX.put aD.out _ _)
  have aK:=hJ (bt (bt aA.out aJ.out) aB.out)
  have aX:=hJ (show Below x1.heap.size x1 x9 by rw [←bL.out]; exact below_sto (bt (bt (bt aA.out aJ.out) aB.out) aM.out) (Nat.le_trans (aK.out).size aC.out) _ _)
  have aZ:=hJ (BX.new bE.out aX.out)
  have bA:=hJ (BX.new bF.out aX.out)
  have aH:=hJ (show BX 25 x9 w2.heap.size #[.int .i64 ax,.int .i64 ay,.int .i64 bx,.int .i64 by'] by rw [←bL.out]; exact BX.far aI.out (show w2.heap.size≠w5.heap.size by have h1:=aV.out; have h2:=aC.out; have h3:=(aB.out).size; omega) _ _)
  have aR:=hJ (bt (bt (bt aO.out aA.out) aJ.out) aB.out)
  have bC:=hJ (show Below w.heap.size w x9 by rw [←bL.out]; exact below_sto (bt (bt (bt (bt aO.out aA.out) aJ.out) aB.out) aM.out) (Nat.le_trans (aR.out).size aC.out) _ _)
  have aS:=hJ (bt aO.out aA.out)
  go_upto_region 14 with fail
  clear hr bB cN cO cP cQ cR cS bS
  refine wp_mono (pair_t ax ay bx by' ax ay dx dy j t6 w.heap.size (w.heap.size+1) w2.heap.size w5.heap.size (.int .i64 0) (.int .i64 0) (.int .i64 0) (.int .i64 0) (.int .i64 0) (.int .i64 0) (.int .i64 0) (.int .i64 0) w x9 (hJ (show Sp ax ay bx by' by have h1:=aG.out.1; have h2:=aG.out.2; have h3:=aW.out.1; unfold Sp; omega)) (hJ (show Tb ax ay dx dy by have h1:=aG.out.1; have h2:=aG.out.2; have h3:=aW.out.1; unfold Tb; omega)) bD aZ bH (hJ (aZ.out).lt) bA bJ (hJ (bA.out).lt) aH (hJ (Nat.le_trans (aS.out).size aL.out)) (hJ (aH.out).lt) bT (hJ (Nat.le_trans (aR.out).size aC.out)) (hJ (bT.out).lt) (hJ bC.out) ⟨(show w.heap.size≠w.heap.size+1 by omega),(show w.heap.size≠w2.heap.size by have h1:=aT.out; have h2:=aL.out; have h3:=(aA.out).size; omega),(show w.heap.size≠w5.heap.size by have h1:=aT.out; have h2:=aC.out; have h3:=(aK.out).size; omega),(show w.heap.size+1≠w2.heap.size by have h1:=aU.out; have h2:=aL.out; have h3:=(aA.out).size; omega),(show w.heap.size+1≠w5.heap.size by have h1:=aU.out; have h2:=aC.out; have h3:=(aK.out).size; omega),(show w2.heap.size≠w5.heap.size by have h1:=aV.out; have h2:=aC.out; have h3:=(aB.out).size; omega)⟩ _ _ (by assumption) (by assumption)) (fun e a w h=>by cases e <;> exact h)
 ·obtain rfl:=hc
  have aY:=hJ (bt aB.out aM.out)
  have aI:=hJ (BX.new bG.out aY.out)
  obtain ⟨cT,cU⟩:=aI.out.c2 2 3 rfl rfl
  have cV:=aD.out.frozen 0
  have cW:=aD.out.cell 0 rfl
  have cX:=aD.out.frozen 1
  have cY:=aD.out.cell 1 rfl
  obtain ⟨x12,bU⟩:=nmz (World.setCell (World.setCell x6 ⟨w5.heap.size,0,none⟩ (.int .i64 bx)) ⟨w5.heap.size,1,none⟩ (.int .i64 by'))
  have bM:=hJ (show sto x6 w5.heap.size 0 [.int .i64 bx,.int .i64 by']=x12 from bU)
  have bV:=hJ (show BX 25 x12 w5.heap.size #[.int .i64 bx,.int .i64 by',.int .i64 dx,.int .i64 dy] by rw [←bM.out]; exact BX.put aD.out _ _)
  have aK:=hJ (bt (bt aA.out aJ.out) aB.out)
  have aX:=hJ (show Below x1.heap.size x1 x12 by rw [←bM.out]; exact below_sto (bt (bt (bt aA.out aJ.out) aB.out) aM.out) (Nat.le_trans (aK.out).size aC.out) _ _)
  have aZ:=hJ (BX.new bE.out aX.out)
  have bA:=hJ (BX.new bF.out aX.out)
  have aH:=hJ (show BX 25 x12 w2.heap.size #[.int .i64 ax,.int .i64 ay,.int .i64 bx,.int .i64 by'] by rw [←bM.out]; exact BX.far aI.out (show w2.heap.size≠w5.heap.size by have h1:=aV.out; have h2:=aC.out; have h3:=(aB.out).size; omega) _ _)
  have aR:=hJ (bt (bt (bt aO.out aA.out) aJ.out) aB.out)
  have bC:=hJ (show Below w.heap.size w x12 by rw [←bM.out]; exact below_sto (bt (bt (bt (bt aO.out aA.out) aJ.out) aB.out) aM.out) (Nat.le_trans (aR.out).size aC.out) _ _)
  have aS:=hJ (bt aO.out aA.out)
  go_upto_region 14 with fail
  clear hr bB cT cU cV cW cX cY bU
  refine wp_mono (pair_t ax ay bx by' bx by' dx dy j t6 w.heap.size (w.heap.size+1) w2.heap.size w5.heap.size (.int .i64 0) (.int .i64 0) (.int .i64 0) (.int .i64 0) (.int .i64 0) (.int .i64 0) (.int .i64 0) (.int .i64 0) w x12 (hJ (show Sp ax ay bx by' by have h1:=aG.out.1; have h2:=aG.out.2; have h3:=aW.out.1; unfold Sp; omega)) (hJ (show Tb bx by' dx dy by have h1:=aG.out.1; have h2:=aG.out.2; have h3:=aW.out.1; unfold Tb; omega)) bD aZ bH (hJ (aZ.out).lt) bA bJ (hJ (bA.out).lt) aH (hJ (Nat.le_trans (aS.out).size aL.out)) (hJ (aH.out).lt) bV (hJ (Nat.le_trans (aR.out).size aC.out)) (hJ (bV.out).lt) (hJ bC.out) ⟨(show w.heap.size≠w.heap.size+1 by omega),(show w.heap.size≠w2.heap.size by have h1:=aT.out; have h2:=aL.out; have h3:=(aA.out).size; omega),(show w.heap.size≠w5.heap.size by have h1:=aT.out; have h2:=aC.out; have h3:=(aK.out).size; omega),(show w.heap.size+1≠w2.heap.size by have h1:=aU.out; have h2:=aL.out; have h3:=(aA.out).size; omega),(show w.heap.size+1≠w5.heap.size by have h1:=aU.out; have h2:=aC.out; have h3:=(aK.out).size; omega),(show w2.heap.size≠w5.heap.size by have h1:=aV.out; have h2:=aC.out; have h3:=(aB.out).size; omega)⟩ _ _ (by assumption) (by assumption)) (fun e a w h=>by cases e <;> exact h)
 ·obtain rfl:=hc
  have aY:=hJ (bt aB.out aM.out)
  have aI:=hJ (BX.new bG.out aY.out)
  have cZ:=aI.out.cell 0 rfl
  have dA:IntKind.i64.wrap (2*ax)=2*ax:=i6_wrap (i6_s (by have:=aG.out.1; omega))
  have dB:=aI.out.cell 2 rfl
  have dD:IntKind.i64.wrap ((2*ax) - bx)=(2*ax) - bx:=i6_wrap (i6_s (by have:=aG.out.1; omega))
  have dE:=aI.out.cell 1 rfl
  have dG:IntKind.i64.wrap (2*ay)=2*ay:=i6_wrap (i6_s (by have:=aG.out.1; omega))
  have dH:=aI.out.cell 3 rfl
  have dI:IntKind.i64.wrap ((2*ay) - by')=(2*ay) - by':=i6_wrap (i6_s (by have:=aG.out.1; omega))
  obtain ⟨dJ,dK⟩:=aI.out.c2 2 3 rfl rfl
  have dL:=aD.out.frozen 0
  have dM:=aD.out.cell 0 rfl
  have dN:=aD.out.frozen 1
  have dO:=aD.out.cell 1 rfl
  have dP:=aD.out.frozen 2
  have dQ:=aD.out.cell 2 rfl
  have dR:=aD.out.frozen 3
  have dS:=aD.out.cell 3 rfl
  obtain ⟨x19,bW⟩:=nmz (World.setCell (World.setCell (World.setCell (World.setCell x6 ⟨w5.heap.size,0,none⟩ (.int .i64 ((2*ax) - bx))) ⟨w5.heap.size,1,none⟩ (.int .i64 ((2*ay) - by'))) ⟨w5.heap.size,2,none⟩ (.int .i64 bx)) ⟨w5.heap.size,3,none⟩ (.int .i64 by'))
  have bN:=hJ (show sto x6 w5.heap.size 0 [.int .i64 ((2*ax) - bx),.int .i64 ((2*ay) - by'),.int .i64 bx,.int .i64 by']=x19 from bW)
  have bX:=hJ (show BX 25 x19 w5.heap.size #[.int .i64 ((2*ax) - bx),.int .i64 ((2*ay) - by'),.int .i64 bx,.int .i64 by'] by rw [←bN.out]; exact BX.put aD.out _ _)
  have aK:=hJ (bt (bt aA.out aJ.out) aB.out)
  have aX:=hJ (show Below x1.heap.size x1 x19 by rw [←bN.out]; exact below_sto (bt (bt (bt aA.out aJ.out) aB.out) aM.out) (Nat.le_trans (aK.out).size aC.out) _ _)
  have aZ:=hJ (BX.new bE.out aX.out)
  have bA:=hJ (BX.new bF.out aX.out)
  have aH:=hJ (show BX 25 x19 w2.heap.size #[.int .i64 ax,.int .i64 ay,.int .i64 bx,.int .i64 by'] by rw [←bN.out]; exact BX.far aI.out (show w2.heap.size≠w5.heap.size by have h1:=aV.out; have h2:=aC.out; have h3:=(aB.out).size; omega) _ _)
  have aR:=hJ (bt (bt (bt aO.out aA.out) aJ.out) aB.out)
  have bC:=hJ (show Below w.heap.size w x19 by rw [←bN.out]; exact below_sto (bt (bt (bt (bt aO.out aA.out) aJ.out) aB.out) aM.out) (Nat.le_trans (aR.out).size aC.out) _ _)
  have aS:=hJ (bt aO.out aA.out)
  go_upto_region 14 with fail
  clear hr bB cZ dA dB dD dE dG dH dI dJ dK dL dM dN dO dP dQ dR dS bW
  refine wp_mono (pair_t ax ay bx by' ((2*ax) - bx) ((2*ay) - by') bx by' j t6 w.heap.size (w.heap.size+1) w2.heap.size w5.heap.size (.int .i64 0) (.int .i64 0) (.int .i64 0) (.int .i64 0) (.int .i64 0) (.int .i64 0) (.int .i64 0) (.int .i64 0) w x19 (hJ (show Sp ax ay bx by' by have h1:=aG.out.1; have h2:=aG.out.2; have h3:=aW.out.1; unfold Sp; omega)) (hJ (show Tb ((2*ax) - bx) ((2*ay) - by') bx by' by have h1:=aG.out.1; have h2:=aG.out.2; have h3:=aW.out.1; unfold Tb; omega)) bD aZ bH (hJ (aZ.out).lt) bA bJ (hJ (bA.out).lt) aH (hJ (Nat.le_trans (aS.out).size aL.out)) (hJ (aH.out).lt) bX (hJ (Nat.le_trans (aR.out).size aC.out)) (hJ (bX.out).lt) (hJ bC.out) ⟨(show w.heap.size≠w.heap.size+1 by omega),(show w.heap.size≠w2.heap.size by have h1:=aT.out; have h2:=aL.out; have h3:=(aA.out).size; omega),(show w.heap.size≠w5.heap.size by have h1:=aT.out; have h2:=aC.out; have h3:=(aK.out).size; omega),(show w.heap.size+1≠w2.heap.size by have h1:=aU.out; have h2:=aL.out; have h3:=(aA.out).size; omega),(show w.heap.size+1≠w5.heap.size by have h1:=aU.out; have h2:=aC.out; have h3:=(aK.out).size; omega),(show w2.heap.size≠w5.heap.size by have h1:=aV.out; have h2:=aC.out; have h3:=(aB.out).size; omega)⟩ _ _ (by assumption) (by assumption)) (fun e a w h=>by cases e <;> exact h)
 ·obtain rfl:=hc
  have aY:=hJ (bt aB.out aM.out)
  have aI:=hJ (BX.new bG.out aY.out)
  have dT:=aI.out.cell 0 rfl
  have dU:=aI.out.cell 2 rfl
  have dW:IntKind.i64.wrap (ax+bx)=ax+bx:=i6_wrap (i6_s (by have:=aG.out.1; omega))
  have dX:=aI.out.cell 1 rfl
  have dY:=aI.out.cell 3 rfl
  have dZ:IntKind.i64.wrap (ay+by')=ay+by':=i6_wrap (i6_s (by have:=aG.out.1; omega))
  obtain ⟨eA,eB⟩:=aD.out.c2 2 3 rfl rfl
  have eC:=aD.out.frozen 0
  have eD:=aD.out.cell 0 rfl
  have eE:=aD.out.frozen 1
  have eF:=aD.out.cell 1 rfl
  have eG:=aD.out.frozen 2
  have eH:=aD.out.cell 2 rfl
  have eI:=aD.out.frozen 3
  have eJ:=aD.out.cell 3 rfl
  obtain ⟨x26,bY⟩:=nmz (World.setCell (World.setCell (World.setCell (World.setCell x6 ⟨w5.heap.size,0,none⟩ (.int .i64 (ax+bx))) ⟨w5.heap.size,1,none⟩ (.int .i64 (ay+by'))) ⟨w5.heap.size,2,none⟩ (.int .i64 dx)) ⟨w5.heap.size,3,none⟩ (.int .i64 dy))
  have bO:=hJ (show sto x6 w5.heap.size 0 [.int .i64 (ax+bx),.int .i64 (ay+by'),.int .i64 dx,.int .i64 dy]=x26 from bY)
  have eK:=hJ (show BX 25 x26 w5.heap.size #[.int .i64 (ax+bx),.int .i64 (ay+by'),.int .i64 dx,.int .i64 dy] by rw [←bO.out]; exact BX.put aD.out _ _)
  have aH:=hJ (show BX 25 x26 w2.heap.size #[.int .i64 ax,.int .i64 ay,.int .i64 bx,.int .i64 by'] by rw [←bO.out]; exact BX.far aI.out (show w2.heap.size≠w5.heap.size by have h1:=aV.out; have h2:=aC.out; have h3:=(aB.out).size; omega) _ _)
  have eL:=aH.out.cell 0 rfl
  have eM:IntKind.i64.wrap (2*ax)=2*ax:=i6_wrap (i6_s (by have:=aG.out.1; omega))
  have eN:=aH.out.cell 1 rfl
  have eO:IntKind.i64.wrap (2*ay)=2*ay:=i6_wrap (i6_s (by have:=aG.out.1; omega))
  have eP:=aH.out.cell 2 rfl
  have eQ:IntKind.i64.wrap (2*bx)=2*bx:=i6_wrap (i6_s (by have:=aG.out.1; omega))
  have eR:=aH.out.cell 3 rfl
  have eS:IntKind.i64.wrap (2*by')=2*by':=i6_wrap (i6_s (by have:=aG.out.1; omega))
  have eT:=aH.out.frozen 0
  have eU:=aH.out.cell 0 rfl
  have eV:=aH.out.frozen 1
  have eW:=aH.out.cell 1 rfl
  have eX:=aH.out.frozen 2
  have eY:=aH.out.cell 2 rfl
  have eZ:=aH.out.frozen 3
  have fA:=aH.out.cell 3 rfl
  obtain ⟨x31,bZ⟩:=nmz (World.setCell (World.setCell (World.setCell (World.setCell x26 ⟨w2.heap.size,0,none⟩ (.int .i64 (2*ax))) ⟨w2.heap.size,1,none⟩ (.int .i64 (2*ay))) ⟨w2.heap.size,2,none⟩ (.int .i64 (2*bx))) ⟨w2.heap.size,3,none⟩ (.int .i64 (2*by')))
  have bP:=hJ (show sto x26 w2.heap.size 0 [.int .i64 (2*ax),.int .i64 (2*ay),.int .i64 (2*bx),.int .i64 (2*by')]=x31 from bZ)
  have cA:=hJ (show BX 25 x31 w2.heap.size #[.int .i64 (2*ax),.int .i64 (2*ay),.int .i64 (2*bx),.int .i64 (2*by')] by rw [←bP.out]; exact BX.put aH.out _ _)
  have aK:=hJ (bt (bt aA.out aJ.out) aB.out)
  have aX:=hJ (show Below x1.heap.size x1 x26 by rw [←bO.out]; exact below_sto (bt (bt (bt aA.out aJ.out) aB.out) aM.out) (Nat.le_trans (aK.out).size aC.out) _ _)
  have cB:=hJ (show Below x1.heap.size x1 x31 by rw [←bP.out]; exact below_sto aX.out (Nat.le_trans (aA.out).size aL.out) _ _)
  have cC:=hJ (BX.new bE.out cB.out)
  have cD:=hJ (BX.new bF.out cB.out)
  have cE:=hJ (show BX 25 x31 w5.heap.size #[.int .i64 (ax+bx),.int .i64 (ay+by'),.int .i64 dx,.int .i64 dy] by rw [←bP.out]; exact BX.far eK.out (show w5.heap.size≠w2.heap.size by have h1:=aV.out; have h2:=aC.out; have h3:=(aB.out).size; omega) _ _)
  have aR:=hJ (bt (bt (bt aO.out aA.out) aJ.out) aB.out)
  have bC:=hJ (show Below w.heap.size w x26 by rw [←bO.out]; exact below_sto (bt (bt (bt (bt aO.out aA.out) aJ.out) aB.out) aM.out) (Nat.le_trans (aR.out).size aC.out) _ _)
  have aS:=hJ (bt aO.out aA.out)
  have fB:=hJ (show Below w.heap.size w x31 by rw [←bP.out]; exact below_sto bC.out (Nat.le_trans (aS.out).size aL.out) _ _)
  go_upto_region 14 with fail
  clear hr bB dT dU dW dX dY dZ eA eB eC eD eE eF eG eH eI eJ bY eL eM eN eO eP eQ eR eS eT eU eV eW eX eY eZ fA bZ
  refine wp_mono (pair_t (2*ax) (2*ay) (2*bx) (2*by') (ax+bx) (ay+by') dx dy j t6 w.heap.size (w.heap.size+1) w2.heap.size w5.heap.size (.int .i64 0) (.int .i64 0) (.int .i64 0) (.int .i64 0) (.int .i64 0) (.int .i64 0) (.int .i64 0) (.int .i64 0) w x31 (hJ (show Sp (2*ax) (2*ay) (2*bx) (2*by') by have h1:=aG.out.1; have h2:=aG.out.2; have h3:=aW.out.1; unfold Sp; omega)) (hJ (show Tb (ax+bx) (ay+by') dx dy by have h1:=aG.out.1; have h2:=aG.out.2; have h3:=aW.out.1; unfold Tb; omega)) bD cC bH (hJ (cC.out).lt) cD bJ (hJ (cD.out).lt) cA (hJ (Nat.le_trans (aS.out).size aL.out)) (hJ (cA.out).lt) cE (hJ (Nat.le_trans (aR.out).size aC.out)) (hJ (cE.out).lt) (hJ fB.out) ⟨(show w.heap.size≠w.heap.size+1 by omega),(show w.heap.size≠w2.heap.size by have h1:=aT.out; have h2:=aL.out; have h3:=(aA.out).size; omega),(show w.heap.size≠w5.heap.size by have h1:=aT.out; have h2:=aC.out; have h3:=(aK.out).size; omega),(show w.heap.size+1≠w2.heap.size by have h1:=aU.out; have h2:=aL.out; have h3:=(aA.out).size; omega),(show w.heap.size+1≠w5.heap.size by have h1:=aU.out; have h2:=aC.out; have h3:=(aK.out).size; omega),(show w2.heap.size≠w5.heap.size by have h1:=aV.out; have h2:=aC.out; have h3:=(aB.out).size; omega)⟩ _ _ (by assumption) (by assumption)) (fun e a w h=>by cases e <;> exact h)
 ·have hq0:(r == 0)=false:=by simp [hc.1]
  have hq1:(r == 1)=false:=by simp [hc.2.1]
  have hq2:(r == 2)=false:=by simp [hc.2.2.1]
  have hq3:(r == 3)=false:=by simp [hc.2.2.2]
  clear hc
  have cF:=hJ (bt (bt (bt aA.out aJ.out) aB.out) aM.out)
  have cG:=hJ (BX.new bE.out cF.out)
  have cH:=hJ (BX.new bF.out cF.out)
  have aY:=hJ (bt aB.out aM.out)
  have aI:=hJ (BX.new bG.out aY.out)
  have fC:=hJ (bt (bt (bt (bt aO.out aA.out) aJ.out) aB.out) aM.out)
  have aK:=hJ (bt (bt aA.out aJ.out) aB.out)
  have aS:=hJ (bt aO.out aA.out)
  have aR:=hJ (bt (bt aS.out aJ.out) aB.out)
  go_upto_region 14 with fail
  clear hr bB
  refine wp_mono (pair_t ax ay bx by' cx cy dx dy j t6 w.heap.size (w.heap.size+1) w2.heap.size w5.heap.size (.int .i64 0) (.int .i64 0) (.int .i64 0) (.int .i64 0) (.int .i64 0) (.int .i64 0) (.int .i64 0) (.int .i64 0) w x6 (hJ (show Sp ax ay bx by' by have h1:=aG.out.1; have h2:=aG.out.2; have h3:=aW.out.1; unfold Sp; omega)) (hJ (show Tb cx cy dx dy by have h1:=aG.out.1; have h2:=aG.out.2; have h3:=aW.out.1; unfold Tb; omega)) bD cG bH (hJ (cG.out).lt) cH bJ (hJ (cH.out).lt) aI (hJ (Nat.le_trans (aS.out).size aL.out)) (hJ (aI.out).lt) aD (hJ (Nat.le_trans (aR.out).size aC.out)) (hJ (aD.out).lt) (hJ fC.out) ⟨(show w.heap.size≠w.heap.size+1 by omega),(show w.heap.size≠w2.heap.size by have h1:=aT.out; have h2:=aL.out; have h3:=(aA.out).size; omega),(show w.heap.size≠w5.heap.size by have h1:=aT.out; have h2:=aC.out; have h3:=(aK.out).size; omega),(show w.heap.size+1≠w2.heap.size by have h1:=aU.out; have h2:=aL.out; have h3:=(aA.out).size; omega),(show w.heap.size+1≠w5.heap.size by have h1:=aU.out; have h2:=aC.out; have h3:=(aK.out).size; omega),(show w2.heap.size≠w5.heap.size by have h1:=aV.out; have h2:=aC.out; have h3:=(aB.out).size; omega)⟩ _ _ (by assumption) (by assumption)) (fun e a w h=>by cases e <;> exact h)
end Go.Proofs.YtdgicnhadecldaaGreat
