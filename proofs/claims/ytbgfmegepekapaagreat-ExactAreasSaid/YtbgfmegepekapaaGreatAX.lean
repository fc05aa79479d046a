/- The end of the walk of the law ExactAreas. -/
import Derived.Test.YtbgfmegepekapaaGreatAN
import Derived.Test.YtbgfmegepekapaaGreatEL
namespace Go.Proofs.YtbgfmegepekapaaGreat
set_option maxRecDepth 100000
set_option maxHeartbeats 12800000
open Go.RowKit
attribute [local go_sem ↓] Go.wp_at_zero Go.wp_at_succ
set_option linter.unusedVariables false
set_option linter.unusedSimpArgs false
theorem cmA_same {a b:Int} (h:a=b):cmpI a b=0:=by unfold cmpI; rw [if_neg (by omega),if_neg (by omega)]
/-- Four points of any fractions lie in their values. -/
def LFg (w:World) (PX QX PY QY:Nat→Int) (U:Nat→Nat→Value):Prop:=∀ j,j < 4→PTg w (U j 0) (U j 1) (U j 2) (U j 3) (U j 4) (U j 5) (U j 6) (U j 7) (PX j) (QX j) (PY j) (QY j)
theorem LFg.new {w w':World} {PX QX PY QY:Nat→Int} {U:Nat→Nat→Value} (h:LFg w PX QX PY QY U) (hb:Below w.heap.size w w'):LFg w' PX QX PY QY U:=fun j hj=>(h j hj).new hb
theorem a_fr {p0 q0 p1 q1 p2 q2 p3 q3 p4 q4 p5 q5:Int} (f0:Fr p0 q0) (f1:Fr p1 q1) (f2:Fr p2 q2) (f3:Fr p3 q3) (f4:Fr p4 q4) (f5:Fr p5 q5):Fr (aP p0 q0 p1 q1 p2 q2 p3 q3 p4 q4 p5 q5) (aQ p0 q0 p1 q1 p2 q2 p3 q3 p4 q4 p5 q5):=by
 unfold aP aQ feP feQ
 by_cases h:aE p0 q0 p1 q1 p2 q2 p3 q3 p4 q4 p5 q5=0
 ·rw [if_pos h,if_pos h]
  exact fr_ad (fr_mu (fr_ad f2 (fr_neg f0)) (fr_ad f5 (fr_neg f1))) (fr_neg (fr_mu (fr_ad f3 (fr_neg f1)) (fr_ad f4 (fr_neg f0))))
 ·rw [if_neg h,if_neg h]
  exact fr_zero
/-- The sum of three areas of four points. -/
theorem a_sum {PX QX PY QY:Nat→Int} (hf:∀ j,j < 4→Fr (PX j) (QX j)∧Fr (PY j) (QY j)) (h0:aE (PX 0) (QX 0) (PY 0) (QY 0) (PX 1) (QX 1) (PY 1) (QY 1) (PX 2) (QX 2) (PY 2) (QY 2)=0) (h1:aE (PX 0) (QX 0) (PY 0) (QY 0) (PX 1) (QX 1) (PY 1) (QY 1) (PX 3) (QX 3) (PY 3) (QY 3)=0) (h2:aE (PX 1) (QX 1) (PY 1) (QY 1) (PX 2) (QX 2) (PY 2) (QY 2) (PX 3) (QX 3) (PY 3) (QY 3)=0) (h3:aE (PX 2) (QX 2) (PY 2) (QY 2) (PX 0) (QX 0) (PY 0) (QY 0) (PX 3) (QX 3) (PY 3) (QY 3)=0) :
  adC (aP (PX 0) (QX 0) (PY 0) (QY 0) (PX 1) (QX 1) (PY 1) (QY 1) (PX 3) (QX 3) (PY 3) (QY 3)) (aQ (PX 0) (QX 0) (PY 0) (QY 0) (PX 1) (QX 1) (PY 1) (QY 1) (PX 3) (QX 3) (PY 3) (QY 3)) (aP (PX 1) (QX 1) (PY 1) (QY 1) (PX 2) (QX 2) (PY 2) (QY 2) (PX 3) (QX 3) (PY 3) (QY 3)) (aQ (PX 1) (QX 1) (PY 1) (QY 1) (PX 2) (QX 2) (PY 2) (QY 2) (PX 3) (QX 3) (PY 3) (QY 3))=0→adC (adP (aP (PX 0) (QX 0) (PY 0) (QY 0) (PX 1) (QX 1) (PY 1) (QY 1) (PX 3) (QX 3) (PY 3) (QY 3)) (aQ (PX 0) (QX 0) (PY 0) (QY 0) (PX 1) (QX 1) (PY 1) (QY 1) (PX 3) (QX 3) (PY 3) (QY 3)) (aP (PX 1) (QX 1) (PY 1) (QY 1) (PX 2) (QX 2) (PY 2) (QY 2) (PX 3) (QX 3) (PY 3) (QY 3)) (aQ (PX 1) (QX 1) (PY 1) (QY 1) (PX 2) (QX 2) (PY 2) (QY 2) (PX 3) (QX 3) (PY 3) (QY 3))) (adQ (aP (PX 0) (QX 0) (PY 0) (QY 0) (PX 1) (QX 1) (PY 1) (QY 1) (PX 3) (QX 3) (PY 3) (QY 3)) (aQ (PX 0) (QX 0) (PY 0) (QY 0) (PX 1) (QX 1) (PY 1) (QY 1) (PX 3) (QX 3) (PY 3) (QY 3)) (aP (PX 1) (QX 1) (PY 1) (QY 1) (PX 2) (QX 2) (PY 2) (QY 2) (PX 3) (QX 3) (PY 3) (QY 3)) (aQ (PX 1) (QX 1) (PY 1) (QY 1) (PX 2) (QX 2) (PY 2) (QY 2) (PX 3) (QX 3) (PY 3) (QY 3))) (aP (PX 2) (QX 2) (PY 2) (QY 2) (PX 0) (QX 0) (PY 0) (QY 0) (PX 3) (QX 3) (PY 3) (QY 3)) (aQ (PX 2) (QX 2) (PY 2) (QY 2) (PX 0) (QX 0) (PY 0) (QY 0) (PX 3) (QX 3) (PY 3) (QY 3))=0 →
  adP (adP (aP (PX 0) (QX 0) (PY 0) (QY 0) (PX 1) (QX 1) (PY 1) (QY 1) (PX 3) (QX 3) (PY 3) (QY 3)) (aQ (PX 0) (QX 0) (PY 0) (QY 0) (PX 1) (QX 1) (PY 1) (QY 1) (PX 3) (QX 3) (PY 3) (QY 3)) (aP (PX 1) (QX 1) (PY 1) (QY 1) (PX 2) (QX 2) (PY 2) (QY 2) (PX 3) (QX 3) (PY 3) (QY 3)) (aQ (PX 1) (QX 1) (PY 1) (QY 1) (PX 2) (QX 2) (PY 2) (QY 2) (PX 3) (QX 3) (PY 3) (QY 3))) (adQ (aP (PX 0) (QX 0) (PY 0) (QY 0) (PX 1) (QX 1) (PY 1) (QY 1) (PX 3) (QX 3) (PY 3) (QY 3)) (aQ (PX 0) (QX 0) (PY 0) (QY 0) (PX 1) (QX 1) (PY 1) (QY 1) (PX 3) (QX 3) (PY 3) (QY 3)) (aP (PX 1) (QX 1) (PY 1) (QY 1) (PX 2) (QX 2) (PY 2) (QY 2) (PX 3) (QX 3) (PY 3) (QY 3)) (aQ (PX 1) (QX 1) (PY 1) (QY 1) (PX 2) (QX 2) (PY 2) (QY 2) (PX 3) (QX 3) (PY 3) (QY 3))) (aP (PX 2) (QX 2) (PY 2) (QY 2) (PX 0) (QX 0) (PY 0) (QY 0) (PX 3) (QX 3) (PY 3) (QY 3)) (aQ (PX 2) (QX 2) (PY 2) (QY 2) (PX 0) (QX 0) (PY 0) (QY 0) (PX 3) (QX 3) (PY 3) (QY 3))=aP (PX 0) (QX 0) (PY 0) (QY 0) (PX 1) (QX 1) (PY 1) (QY 1) (PX 2) (QX 2) (PY 2) (QY 2)∧adQ (adP (aP (PX 0) (QX 0) (PY 0) (QY 0) (PX 1) (QX 1) (PY 1) (QY 1) (PX 3) (QX 3) (PY 3) (QY 3)) (aQ (PX 0) (QX 0) (PY 0) (QY 0) (PX 1) (QX 1) (PY 1) (QY 1) (PX 3) (QX 3) (PY 3) (QY 3)) (aP (PX 1) (QX 1) (PY 1) (QY 1) (PX 2) (QX 2) (PY 2) (QY 2) (PX 3) (QX 3) (PY 3) (QY 3)) (aQ (PX 1) (QX 1) (PY 1) (QY 1) (PX 2) (QX 2) (PY 2) (QY 2) (PX 3) (QX 3) (PY 3) (QY 3))) (adQ (aP (PX 0) (QX 0) (PY 0) (QY 0) (PX 1) (QX 1) (PY 1) (QY 1) (PX 3) (QX 3) (PY 3) (QY 3)) (aQ (PX 0) (QX 0) (PY 0) (QY 0) (PX 1) (QX 1) (PY 1) (QY 1) (PX 3) (QX 3) (PY 3) (QY 3)) (aP (PX 1) (QX 1) (PY 1) (QY 1) (PX 2) (QX 2) (PY 2) (QY 2) (PX 3) (QX 3) (PY 3) (QY 3)) (aQ (PX 1) (QX 1) (PY 1) (QY 1) (PX 2) (QX 2) (PY 2) (QY 2) (PX 3) (QX 3) (PY 3) (QY 3))) (aP (PX 2) (QX 2) (PY 2) (QY 2) (PX 0) (QX 0) (PY 0) (QY 0) (PX 3) (QX 3) (PY 3) (QY 3)) (aQ (PX 2) (QX 2) (PY 2) (QY 2) (PX 0) (QX 0) (PY 0) (QY 0) (PX 3) (QX 3) (PY 3) (QY 3))=aQ (PX 0) (QX 0) (PY 0) (QY 0) (PX 1) (QX 1) (PY 1) (QY 1) (PX 2) (QX 2) (PY 2) (QY 2):=by
 have l:∀ j,j < 4→Low (PX j) (QX j)∧Low (PY j) (QY j):=fun j hj=>⟨(hf j hj).1.1,(hf j hj).2.1⟩
 obtain ⟨x0,y0⟩:=l 0 (by decide)
 obtain ⟨x1,y1⟩:=l 1 (by decide)
 obtain ⟨x2,y2⟩:=l 2 (by decide)
 obtain ⟨x3,y3⟩:=l 3 (by decide)
 have r0:=a_rat x0 y0 x1 y1 x2 y2 h0
 have r1:=a_rat x0 y0 x1 y1 x3 y3 h1
 have r2:=a_rat x1 y1 x2 y2 x3 y3 h2
 have r3:=a_rat x2 y2 x0 y0 x3 y3 h3
 exact fun k1 k2=>areas_sum r1 r2 r3 r0 k1 k2
/-- The code behind n statements. -/
def sqA:Nat→Code→Code
 | 0,c=>c
 | n+1,.seq _ b=>sqA n b
 | _+1,c=>c
def fsA:Code→Code
 | .seq a _=>a
 | c=>c
noncomputable def areB:Code:=(Tryz.f4.body).getD .skip
theorem areas_t {u0 u1 u2 u3 u4 u5 u6 u8 u9 u10 u11 u12 u13 u14 u15 u16 u17 u18 u19 u20 u21 u22 u23 u24 u25 u26 u27 u28 u29 u30 u31 u32 u33 u34 u35 u36 u37 u38 u39 u40 u41 u42 u43 u44 u45 u46 u47 u48 u49 u50 u51 u52 u53 u54 u55 u56 u57 u58 u59 u60 u61 u62 u63 u64 u65 u66 u67 u68 u69 u70 u71 u72 u73 u74 u75 u76 u77 u78 u79 u80 u81 u82 u83 u84 u85 u86 u87 u88 u89 u90 u91 u92 u93 u94 u95 u96 u97 u98 u99 u100 u101 u102 u103 u104 u105 u106 u107 u108 u109 u110 u111 u112 u113 u114 u115 u116 u117 u118 u119 u120 u121 u122 u123 u124 u125 u126 u127 u128 u129 u130 u131 u132 u133 u134 u135 u136 u137 u138 u139 u140 u141 u142 u143 u144 u145 u146 u147 u148 u149 u150 u151 u152 u153 u154 u155 u156 u157 u158 u159 u160 u161 u162 u163 u164 u165 u166 u167 u168 u169 u170 u171 u172 u173 u174 u175 u176 u177 u178 u179 u180 u181 u182 u183 u184 u185 u186 u187 u188 u189 u190 u191 u192 u193 u194 u195 u196 u197 u198 u199 u200 u201 u202 u203 u204 u205 u206 u207 u208 u209 u210 u211 u212 u213 u214 u215 u216 u217 u218 u219 u220 u221 u222 u223 u224 u225:Value} (PX QX PY QY:Nat→Int) (U:Nat→Nat→Value) (B gq cpq:Nat) (w0 w:World)
  (aA:Hid (∀ j,j < 4→Fr (PX j) (QX j)∧Fr (PY j) (QY j))) (bK:Hid (LFg w PX QX PY QY U))
  (aC:Hid (OwnR noU w B 29 8 (.slice (some ⟨gq,0,none⟩) 4 cpq) 4 (rowQ U))) (bL:Hid (Below w0.heap.size w0 w))
  (K:Act→World→Prop) (hK:∀ a w,Code.wp Tryz.prog (sqA 11 areB) (bodyPost Tryz.prog Tryz.f4 fun e w'=>e=.returned (.bool true)∧Below w0.heap.size w0 w') a w→K a w) :
  Code.wp Tryz.prog (fsA (sqA 10 areB)) (Exit.then K (bodyPost Tryz.prog Tryz.f4 fun e w'=>e=.returned (.bool true)∧Below w0.heap.size w0 w')) ⟨(u0 :: u1 :: u2 :: u3 :: u4 :: u5 :: u6 :: (.slice (some ⟨gq,0,none⟩) 4 cpq:Value) :: u8 :: u9 :: u10 :: u11 :: u12 :: u13 :: u14 :: u15 :: u16 :: u17 :: u18 :: u19 :: u20 :: u21 :: u22 :: u23 :: u24 :: u25 :: u26 :: u27 :: u28 :: u29 :: u30 :: u31 :: u32 :: u33 :: u34 :: u35 :: u36 :: u37 :: u38 :: u39 :: u40 :: u41 :: u42 :: u43 :: u44 :: u45 :: u46 :: u47 :: u48 :: u49 :: u50 :: u51 :: u52 :: u53 :: u54 :: u55 :: u56 :: u57 :: u58 :: u59 :: u60 :: u61 :: u62 :: u63 :: u64 :: u65 :: u66 :: u67 :: u68 :: u69 :: u70 :: u71 :: u72 :: u73 :: u74 :: u75 :: u76 :: u77 :: u78 :: u79 :: u80 :: u81 :: u82 :: u83 :: u84 :: u85 :: u86 :: u87 :: u88 :: u89 :: u90 :: u91 :: u92 :: u93 :: u94 :: u95 :: u96 :: u97 :: u98 :: u99 :: u100 :: u101 :: u102 :: u103 :: u104 :: u105 :: u106 :: u107 :: u108 :: u109 :: u110 :: u111 :: u112 :: u113 :: u114 :: u115 :: u116 :: u117 :: u118 :: u119 :: u120 :: u121 :: u122 :: u123 :: u124 :: u125 :: u126 :: u127 :: u128 :: u129 :: u130 :: u131 :: u132 :: u133 :: u134 :: u135 :: u136 :: u137 :: u138 :: u139 :: u140 :: u141 :: u142 :: u143 :: u144 :: u145 :: u146 :: u147 :: u148 :: u149 :: u150 :: u151 :: u152 :: u153 :: u154 :: u155 :: u156 :: u157 :: u158 :: u159 :: u160 :: u161 :: u162 :: u163 :: u164 :: u165 :: u166 :: u167 :: u168 :: u169 :: u170 :: u171 :: u172 :: u173 :: u174 :: u175 :: u176 :: u177 :: u178 :: u179 :: u180 :: u181 :: u182 :: u183 :: u184 :: u185 :: u186 :: u187 :: u188 :: u189 :: u190 :: u191 :: u192 :: u193 :: u194 :: u195 :: u196 :: u197 :: u198 :: u199 :: u200 :: u201 :: u202 :: u203 :: u204 :: u205 :: u206 :: u207 :: u208 :: u209 :: u210 :: u211 :: u212 :: u213 :: u214 :: u215 :: u216 :: u217 :: u218 :: u219 :: u220 :: u221 :: u222 :: u223 :: u224 :: u225 :: []).toArray,[]⟩ w:=by
 conv=>arg 2; whnf
 conv at hK=>intro a w; arg 1; arg 2; whnf
 obtain ⟨p0,hp⟩:=nmz (aP (PX 0) (QX 0) (PY 0) (QY 0) (PX 1) (QX 1) (PY 1) (QY 1) (PX 2) (QX 2) (PY 2) (QY 2))
 obtain ⟨q0,hq⟩:=nmz (aQ (PX 0) (QX 0) (PY 0) (QY 0) (PX 1) (QX 1) (PY 1) (QY 1) (PX 2) (QX 2) (PY 2) (QY 2))
 obtain ⟨e0,he⟩:=nmz (aE (PX 0) (QX 0) (PY 0) (QY 0) (PX 1) (QX 1) (PY 1) (QY 1) (PX 2) (QX 2) (PY 2) (QY 2))
 have bQ:=hJ hp
 have bZ:=hJ hq
 have bR:=hJ he
 have bB:=hJ (show Fr p0 q0 by rw [←hp,←hq]; exact a_fr (aA.out 0 (by decide)).1 (aA.out 0 (by decide)).2 (aA.out 1 (by decide)).1 (aA.out 1 (by decide)).2 (aA.out 2 (by decide)).1 (aA.out 2 (by decide)).2)
 clear hp hq he
 obtain ⟨p1,hp⟩:=nmz (aP (PX 0) (QX 0) (PY 0) (QY 0) (PX 1) (QX 1) (PY 1) (QY 1) (PX 3) (QX 3) (PY 3) (QY 3))
 obtain ⟨q1,hq⟩:=nmz (aQ (PX 0) (QX 0) (PY 0) (QY 0) (PX 1) (QX 1) (PY 1) (QY 1) (PX 3) (QX 3) (PY 3) (QY 3))
 obtain ⟨e1,he⟩:=nmz (aE (PX 0) (QX 0) (PY 0) (QY 0) (PX 1) (QX 1) (PY 1) (QY 1) (PX 3) (QX 3) (PY 3) (QY 3))
 have cN:=hJ hp
 have cO:=hJ hq
 have cP:=hJ he
 have cB:=hJ (show Fr p1 q1 by rw [←hp,←hq]; exact a_fr (aA.out 0 (by decide)).1 (aA.out 0 (by decide)).2 (aA.out 1 (by decide)).1 (aA.out 1 (by decide)).2 (aA.out 3 (by decide)).1 (aA.out 3 (by decide)).2)
 clear hp hq he
 obtain ⟨p2,hp⟩:=nmz (aP (PX 1) (QX 1) (PY 1) (QY 1) (PX 2) (QX 2) (PY 2) (QY 2) (PX 3) (QX 3) (PY 3) (QY 3))
 obtain ⟨q2,hq⟩:=nmz (aQ (PX 1) (QX 1) (PY 1) (QY 1) (PX 2) (QX 2) (PY 2) (QY 2) (PX 3) (QX 3) (PY 3) (QY 3))
 obtain ⟨e2,he⟩:=nmz (aE (PX 1) (QX 1) (PY 1) (QY 1) (PX 2) (QX 2) (PY 2) (QY 2) (PX 3) (QX 3) (PY 3) (QY 3))
 have cQ:=hJ hp
 have cR:=hJ hq
 have cS:=hJ he
 have cC:=hJ (show Fr p2 q2 by rw [←hp,←hq]; exact a_fr (aA.out 1 (by decide)).1 (aA.out 1 (by decide)).2 (aA.out 2 (by decide)).1 (aA.out 2 (by decide)).2 (aA.out 3 (by decide)).1 (aA.out 3 (by decide)).2)
 clear hp hq he
 obtain ⟨p3,hp⟩:=nmz (aP (PX 2) (QX 2) (PY 2) (QY 2) (PX 0) (QX 0) (PY 0) (QY 0) (PX 3) (QX 3) (PY 3) (QY 3))
 obtain ⟨q3,hq⟩:=nmz (aQ (PX 2) (QX 2) (PY 2) (QY 2) (PX 0) (QX 0) (PY 0) (QY 0) (PX 3) (QX 3) (PY 3) (QY 3))
 obtain ⟨e3,he⟩:=nmz (aE (PX 2) (QX 2) (PY 2) (QY 2) (PX 0) (QX 0) (PY 0) (QY 0) (PX 3) (QX 3) (PY 3) (QY 3))
 have cT:=hJ hp
 have cU:=hJ hq
 have cV:=hJ he
 have cD:=hJ (show Fr p3 q3 by rw [←hp,←hq]; exact a_fr (aA.out 2 (by decide)).1 (aA.out 2 (by decide)).2 (aA.out 0 (by decide)).1 (aA.out 0 (by decide)).2 (aA.out 3 (by decide)).1 (aA.out 3 (by decide)).2)
 clear hp hq he
 have gP:=hJ (show e0=0→e1=0→e2=0→e3=0→adC p1 q1 p2 q2=0→adC (adP p1 q1 p2 q2) (adQ p1 q1 p2 q2) p3 q3=0→adP (adP p1 q1 p2 q2) (adQ p1 q1 p2 q2) p3 q3=p0∧adQ (adP p1 q1 p2 q2) (adQ p1 q1 p2 q2) p3 q3=q0 by
  rw [←bQ.out,←bZ.out,←bR.out,←cN.out,←cO.out,←cP.out,←cQ.out,←cR.out,←cS.out,←cT.out,←cU.out,←cV.out]
  exact fun k0 k1 k2 k3=>a_sum aA.out k0 k1 k2 k3)
 obtain ⟨sg,hsg⟩:=nmz (cmpI p0 0)
 have eL:=hJ hsg
 clear hsg
 have bD:Hid (∀ w',Below w.heap.size w w'→(fun w':World=>w'.cell? ⟨gq,0,none⟩=some ((U 0 0))∧w'.cell? ⟨gq,1,none⟩=some ((U 0 1))∧w'.cell? ⟨gq,2,none⟩=some ((U 0 2))∧w'.cell? ⟨gq,3,none⟩=some ((U 0 3))∧w'.cell? ⟨gq,4,none⟩=some ((U 0 4))∧w'.cell? ⟨gq,5,none⟩=some ((U 0 5))∧w'.cell? ⟨gq,6,none⟩=some ((U 0 6))∧w'.cell? ⟨gq,7,none⟩=some ((U 0 7))∧w'.cell? ⟨gq,8,none⟩=some ((U 1 0))∧w'.cell? ⟨gq,9,none⟩=some ((U 1 1))∧w'.cell? ⟨gq,10,none⟩=some ((U 1 2))∧w'.cell? ⟨gq,11,none⟩=some ((U 1 3))∧w'.cell? ⟨gq,12,none⟩=some ((U 1 4))∧w'.cell? ⟨gq,13,none⟩=some ((U 1 5))∧w'.cell? ⟨gq,14,none⟩=some ((U 1 6))∧w'.cell? ⟨gq,15,none⟩=some ((U 1 7))∧w'.cell? ⟨gq,16,none⟩=some ((U 2 0))∧w'.cell? ⟨gq,17,none⟩=some ((U 2 1))∧w'.cell? ⟨gq,18,none⟩=some ((U 2 2))∧w'.cell? ⟨gq,19,none⟩=some ((U 2 3))∧w'.cell? ⟨gq,20,none⟩=some ((U 2 4))∧w'.cell? ⟨gq,21,none⟩=some ((U 2 5))∧w'.cell? ⟨gq,22,none⟩=some ((U 2 6))∧w'.cell? ⟨gq,23,none⟩=some ((U 2 7))∧Below w.heap.size w w') w'):=hJ (fun w' hb=>⟨(OwnR.new aC.out hb).at 0 rfl,(OwnR.new aC.out hb).at 1 rfl,(OwnR.new aC.out hb).at 2 rfl,(OwnR.new aC.out hb).at 3 rfl,(OwnR.new aC.out hb).at 4 rfl,(OwnR.new aC.out hb).at 5 rfl,(OwnR.new aC.out hb).at 6 rfl,(OwnR.new aC.out hb).at 7 rfl,(OwnR.new aC.out hb).at 8 rfl,(OwnR.new aC.out hb).at 9 rfl,(OwnR.new aC.out hb).at 10 rfl,(OwnR.new aC.out hb).at 11 rfl,(OwnR.new aC.out hb).at 12 rfl,(OwnR.new aC.out hb).at 13 rfl,(OwnR.new aC.out hb).at 14 rfl,(OwnR.new aC.out hb).at 15 rfl,(OwnR.new aC.out hb).at 16 rfl,(OwnR.new aC.out hb).at 17 rfl,(OwnR.new aC.out hb).at 18 rfl,(OwnR.new aC.out hb).at 19 rfl,(OwnR.new aC.out hb).at 20 rfl,(OwnR.new aC.out hb).at 21 rfl,(OwnR.new aC.out hb).at 22 rfl,(OwnR.new aC.out hb).at 23 rfl,hb⟩)
 go_wp2_with fail
 obtain ⟨v1,hv1⟩:=nmz (World.drew w)
 have bS:=hJ (show Below w.heap.size w v1 by rw [←hv1]; exact (Below.refl _ _).drew)
 refine whd bD hv1 (fun hHeld=>?_)
 clear hv1
 refine tq 0 ?_
 refine tq 1 ?_
 refine tq 2 ?_
 refine tq 3 ?_
 refine tq 4 ?_
 refine tq 5 ?_
 refine tq 6 ?_
 refine tq 7 ?_
 refine tq 8 ?_
 try simp only [PT]
 refine wpAnyH_name (fun F hF a0 ha0 L0 hL0=>?_)
 have cE:∀ (s11:Bool) (A11:Option Addr) (n11:Nat) (c11:Nat) (t11:Bool) (B11:Option Addr) (m11:Nat) (d11:Nat) (aJ:Nat) (v:World),Hid (Below w.heap.size w v)→Hid (PF v s11 A11 n11 c11 t11 B11 m11 d11 p0 q0)→Hid (BX 27 v aJ #[.bool false,.slice none 0 0,.bool false,.slice none 0 0])→Hid (w.heap.size≤aJ)→F 2 (Array.setIfInBounds (Array.setIfInBounds (Array.setIfInBounds (Array.setIfInBounds (Array.setIfInBounds L0 9 true) 13 true) 10 true) 11 true) 12 true) (Act.put (Act.put (Act.put (Act.put (Act.put a0 (some 96) (.tuple #[.agg #[.bool s11,.slice A11 n11 c11,.bool t11,.slice B11 m11 d11],.int .i64 e0])) (some 16) (.pointer (some ⟨aJ,0,none⟩))) (some 86) (.tuple #[.agg #[.bool s11,.slice A11 n11 c11,.bool t11,.slice B11 m11 d11],.int .i64 e0])) (some 97) (.agg #[.bool s11,.slice A11 n11 c11,.bool t11,.slice B11 m11 d11])) (some 98) (.int .i64 e0)) v:=by
  intro s11 A11 n11 c11 t11 B11 m11 d11 aJ v aB cW aO cX
  subst hF ha0 hL0
  simp only [PT] at  ⊢
  have hHeld:=bD.out _ aB.out
  refine ryy [14] ?_
  refine .cons rfl (fun K hK=>?_) .nil
  have z2_0:=aO.out.cell 0 rfl
  have y2_0:=aO.out.frozen 0
  have z2_1:=aO.out.cell 1 rfl
  have y2_1:=aO.out.frozen 1
  have z2_2:=aO.out.cell 2 rfl
  have y2_2:=aO.out.frozen 2
  have z2_3:=aO.out.cell 3 rfl
  have y2_3:=aO.out.frozen 3
  have z2:=aO.out.lt
  go_simp
  obtain ⟨v2,hV⟩:=nmz (World.setCell (World.setCell (World.setCell (World.setCell v ⟨aJ,0,none⟩ (.bool s11)) ⟨aJ,1,none⟩ (.slice A11 n11 c11)) ⟨aJ,2,none⟩ (.bool t11)) ⟨aJ,3,none⟩ (.slice B11 m11 d11))
  rw [hV]
  have cY:=hJ (show sto v aJ 0 [.bool s11,.slice A11 n11 c11,.bool t11,.slice B11 m11 d11]=v2 from hV)
  clear hV z2 z2_0 y2_0 z2_1 y2_1 z2_2 y2_2 z2_3 y2_3
  have bC:=hJ (show Below w.heap.size w v2 by rw [←cY.out]; exact below_sto aB.out cX.out _ _)
  have gQ:=hJ (show PF v2 s11 A11 n11 c11 t11 B11 m11 d11 p0 q0 by rw [←cY.out]; exact PF.sto cW.out aO.out rfl _ _)
  have gR:=hJ (show BX 27 v2 aJ #[.bool s11,.slice A11 n11 c11,.bool t11,.slice B11 m11 d11] by rw [←cY.out]; exact BX.put aO.out _ _)
  clear hHeld
  refine hK.out _ _ (bD.out _ bC.out) (fun hHeld=>?_)
  clear hK K
  refine tq 15 ?_
  try simp only [PT]
  refine wpAnyH_done (by kernel_rfl) ?_ _
  clear hHeld
  have aD:=hJ (OwnR.new aC.out bC.out)
  have bE:Hid (∀ w',Below v2.heap.size v2 w'→(fun w':World=>w'.cell? ⟨gq,0,none⟩=some ((U 0 0))∧w'.cell? ⟨gq,1,none⟩=some ((U 0 1))∧w'.cell? ⟨gq,2,none⟩=some ((U 0 2))∧w'.cell? ⟨gq,3,none⟩=some ((U 0 3))∧w'.cell? ⟨gq,4,none⟩=some ((U 0 4))∧w'.cell? ⟨gq,5,none⟩=some ((U 0 5))∧w'.cell? ⟨gq,6,none⟩=some ((U 0 6))∧w'.cell? ⟨gq,7,none⟩=some ((U 0 7))∧w'.cell? ⟨gq,8,none⟩=some ((U 1 0))∧w'.cell? ⟨gq,9,none⟩=some ((U 1 1))∧w'.cell? ⟨gq,10,none⟩=some ((U 1 2))∧w'.cell? ⟨gq,11,none⟩=some ((U 1 3))∧w'.cell? ⟨gq,12,none⟩=some ((U 1 4))∧w'.cell? ⟨gq,13,none⟩=some ((U 1 5))∧w'.cell? ⟨gq,14,none⟩=some ((U 1 6))∧w'.cell? ⟨gq,15,none⟩=some ((U 1 7))∧w'.cell? ⟨gq,16,none⟩=some ((U 2 0))∧w'.cell? ⟨gq,17,none⟩=some ((U 2 1))∧w'.cell? ⟨gq,18,none⟩=some ((U 2 2))∧w'.cell? ⟨gq,19,none⟩=some ((U 2 3))∧w'.cell? ⟨gq,20,none⟩=some ((U 2 4))∧w'.cell? ⟨gq,21,none⟩=some ((U 2 5))∧w'.cell? ⟨gq,22,none⟩=some ((U 2 6))∧w'.cell? ⟨gq,23,none⟩=some ((U 2 7))∧Below v2.heap.size v2 w') w'):=hJ (fun w' hb=>⟨(OwnR.new aD.out hb).at 0 rfl,(OwnR.new aD.out hb).at 1 rfl,(OwnR.new aD.out hb).at 2 rfl,(OwnR.new aD.out hb).at 3 rfl,(OwnR.new aD.out hb).at 4 rfl,(OwnR.new aD.out hb).at 5 rfl,(OwnR.new aD.out hb).at 6 rfl,(OwnR.new aD.out hb).at 7 rfl,(OwnR.new aD.out hb).at 8 rfl,(OwnR.new aD.out hb).at 9 rfl,(OwnR.new aD.out hb).at 10 rfl,(OwnR.new aD.out hb).at 11 rfl,(OwnR.new aD.out hb).at 12 rfl,(OwnR.new aD.out hb).at 13 rfl,(OwnR.new aD.out hb).at 14 rfl,(OwnR.new aD.out hb).at 15 rfl,(OwnR.new aD.out hb).at 16 rfl,(OwnR.new aD.out hb).at 17 rfl,(OwnR.new aD.out hb).at 18 rfl,(OwnR.new aD.out hb).at 19 rfl,(OwnR.new aD.out hb).at 20 rfl,(OwnR.new aD.out hb).at 21 rfl,(OwnR.new aD.out hb).at 22 rfl,(OwnR.new aD.out hb).at 23 rfl,hb⟩)
  have bM:=hJ (LFg.new bK.out bC.out)
  go_wp2_with fail
  obtain ⟨v4,hv4⟩:=nmz (World.drew v2)
  have bT:=hJ (show Below v2.heap.size v2 v4 by rw [←hv4]; exact (Below.refl _ _).drew)
  refine whd bE hv4 (fun hHeld=>?_)
  clear hv4
  refine tq 0 ?_
  refine tq 1 ?_
  refine tq 2 ?_
  refine tq 3 ?_
  refine tq 4 ?_
  refine tq 5 ?_
  refine tq 6 ?_
  refine tq 7 ?_
  refine tq 8 ?_
  try simp only [PT]
  refine wpAnyH_name (fun F hF a0 ha0 L0 hL0=>?_)
  have cF:∀ (s12:Bool) (A12:Option Addr) (n12:Nat) (c12:Nat) (t12:Bool) (B12:Option Addr) (m12:Nat) (d12:Nat) (aK:Nat) (v:World),Hid (Below v2.heap.size v2 v)→Hid (PF v s12 A12 n12 c12 t12 B12 m12 d12 p0 q0)→Hid (BX 27 v aK #[.bool false,.slice none 0 0,.bool false,.slice none 0 0])→Hid (v2.heap.size≤aK)→F 2 (Array.setIfInBounds (Array.setIfInBounds (Array.setIfInBounds (Array.setIfInBounds (Array.setIfInBounds L0 9 true) 13 true) 10 true) 11 true) 12 true) (Act.put (Act.put (Act.put (Act.put (Act.put a0 (some 109) (.tuple #[.agg #[.bool s12,.slice A12 n12 c12,.bool t12,.slice B12 m12 d12],.int .i64 e0])) (some 18) (.pointer (some ⟨aK,0,none⟩))) (some 99) (.tuple #[.agg #[.bool s12,.slice A12 n12 c12,.bool t12,.slice B12 m12 d12],.int .i64 e0])) (some 110) (.agg #[.bool s12,.slice A12 n12 c12,.bool t12,.slice B12 m12 d12])) (some 111) (.int .i64 e0)) v:=by
   intro s12 A12 n12 c12 t12 B12 m12 d12 aK v aB cZ aR dA
   subst hF ha0 hL0
   simp only [PT] at  ⊢
   have hHeld:=bE.out _ aB.out
   refine ryy [14] ?_
   refine .cons rfl (fun K hK=>?_) .nil
   have z5_0:=aR.out.cell 0 rfl
   have y5_0:=aR.out.frozen 0
   have z5_1:=aR.out.cell 1 rfl
   have y5_1:=aR.out.frozen 1
   have z5_2:=aR.out.cell 2 rfl
   have y5_2:=aR.out.frozen 2
   have z5_3:=aR.out.cell 3 rfl
   have y5_3:=aR.out.frozen 3
   have z5:=aR.out.lt
   go_simp
   obtain ⟨v5,hV⟩:=nmz (World.setCell (World.setCell (World.setCell (World.setCell v ⟨aK,0,none⟩ (.bool s12)) ⟨aK,1,none⟩ (.slice A12 n12 c12)) ⟨aK,2,none⟩ (.bool t12)) ⟨aK,3,none⟩ (.slice B12 m12 d12))
   rw [hV]
   have dB:=hJ (show sto v aK 0 [.bool s12,.slice A12 n12 c12,.bool t12,.slice B12 m12 d12]=v5 from hV)
   clear hV z5 z5_0 y5_0 z5_1 y5_1 z5_2 y5_2 z5_3 y5_3
   have aY:=hJ (show Below v2.heap.size v2 v5 by rw [←dB.out]; exact below_sto aB.out dA.out _ _)
   have gS:=hJ (show PF v5 s12 A12 n12 c12 t12 B12 m12 d12 p0 q0 by rw [←dB.out]; exact PF.sto cZ.out aR.out rfl _ _)
   have gT:=hJ (show BX 27 v5 aK #[.bool s12,.slice A12 n12 c12,.bool t12,.slice B12 m12 d12] by rw [←dB.out]; exact BX.put aR.out _ _)
   clear hHeld
   refine hK.out _ _ (bE.out _ aY.out) (fun hHeld=>?_)
   clear hK K
   refine tq 15 ?_
   try simp only [PT]
   refine wpAnyH_done (by kernel_rfl) ?_ _
   clear hHeld
   have aF:=hJ (OwnR.new aD.out aY.out)
   have eM:Hid (∀ w',Below v5.heap.size v5 w'→(fun w':World=>w'.cell? ⟨gq,0,none⟩=some ((U 0 0))∧w'.cell? ⟨gq,1,none⟩=some ((U 0 1))∧w'.cell? ⟨gq,2,none⟩=some ((U 0 2))∧w'.cell? ⟨gq,3,none⟩=some ((U 0 3))∧w'.cell? ⟨gq,4,none⟩=some ((U 0 4))∧w'.cell? ⟨gq,5,none⟩=some ((U 0 5))∧w'.cell? ⟨gq,6,none⟩=some ((U 0 6))∧w'.cell? ⟨gq,7,none⟩=some ((U 0 7))∧w'.cell? ⟨gq,8,none⟩=some ((U 1 0))∧w'.cell? ⟨gq,9,none⟩=some ((U 1 1))∧w'.cell? ⟨gq,10,none⟩=some ((U 1 2))∧w'.cell? ⟨gq,11,none⟩=some ((U 1 3))∧w'.cell? ⟨gq,12,none⟩=some ((U 1 4))∧w'.cell? ⟨gq,13,none⟩=some ((U 1 5))∧w'.cell? ⟨gq,14,none⟩=some ((U 1 6))∧w'.cell? ⟨gq,15,none⟩=some ((U 1 7))∧w'.cell? ⟨gq,16,none⟩=some ((U 2 0))∧w'.cell? ⟨gq,17,none⟩=some ((U 2 1))∧w'.cell? ⟨gq,18,none⟩=some ((U 2 2))∧w'.cell? ⟨gq,19,none⟩=some ((U 2 3))∧w'.cell? ⟨gq,20,none⟩=some ((U 2 4))∧w'.cell? ⟨gq,21,none⟩=some ((U 2 5))∧w'.cell? ⟨gq,22,none⟩=some ((U 2 6))∧w'.cell? ⟨gq,23,none⟩=some ((U 2 7))∧Below v5.heap.size v5 w') w'):=hJ (fun w' hb=>⟨(OwnR.new aF.out hb).at 0 rfl,(OwnR.new aF.out hb).at 1 rfl,(OwnR.new aF.out hb).at 2 rfl,(OwnR.new aF.out hb).at 3 rfl,(OwnR.new aF.out hb).at 4 rfl,(OwnR.new aF.out hb).at 5 rfl,(OwnR.new aF.out hb).at 6 rfl,(OwnR.new aF.out hb).at 7 rfl,(OwnR.new aF.out hb).at 8 rfl,(OwnR.new aF.out hb).at 9 rfl,(OwnR.new aF.out hb).at 10 rfl,(OwnR.new aF.out hb).at 11 rfl,(OwnR.new aF.out hb).at 12 rfl,(OwnR.new aF.out hb).at 13 rfl,(OwnR.new aF.out hb).at 14 rfl,(OwnR.new aF.out hb).at 15 rfl,(OwnR.new aF.out hb).at 16 rfl,(OwnR.new aF.out hb).at 17 rfl,(OwnR.new aF.out hb).at 18 rfl,(OwnR.new aF.out hb).at 19 rfl,(OwnR.new aF.out hb).at 20 rfl,(OwnR.new aF.out hb).at 21 rfl,(OwnR.new aF.out hb).at 22 rfl,(OwnR.new aF.out hb).at 23 rfl,hb⟩)
   have cG:=hJ (LFg.new bM.out aY.out)
   go_wp2_with fail
   obtain ⟨v7,hv7⟩:=nmz (World.drew v5)
   have cH:=hJ (show Below v5.heap.size v5 v7 by rw [←hv7]; exact (Below.refl _ _).drew)
   refine whd eM hv7 (fun hHeld=>?_)
   clear hv7
   refine tq 0 ?_
   refine tq 1 ?_
   refine tq 2 ?_
   refine tq 3 ?_
   refine tq 4 ?_
   refine tq 5 ?_
   refine tq 6 ?_
   refine tq 7 ?_
   refine tq 8 ?_
   try simp only [PT]
   refine ryy [9] ?_
   refine .cons rfl (fun K hK=>?_) .nil
   go_simp
   go_at_call 25
   refine (sidew_any v7 ((LFg.new cG.out cH.out) 0 (by decide)) ((LFg.new cG.out cH.out) 1 (by decide)) ((LFg.new cG.out cH.out) 2 (by decide)) (aA.out 0 (by decide)).1 (aA.out 0 (by decide)).2 (aA.out 1 (by decide)).1 (aA.out 1 (by decide)).2 (aA.out 2 (by decide)).1 (aA.out 2 (by decide)).2).mono ?_
   rw [bQ.out,eL.out,bR.out]
   rintro e v8 ⟨rfl,hb⟩
   have gU:=hJ hb
   clear hb
   go_wp2_with fail
   have aV:=hJ (bt cH.out gU.out)
   clear hHeld
   refine hK.out _ _ (eM.out _ aV.out) (fun hHeld=>?_)
   clear hK K
   refine tq 10 ?_
   refine tq 11 ?_
   refine tq 12 ?_
   refine tq 13 ?_
   refine tq 14 ?_
   try simp only [PT]
   refine wpAnyH_done (by kernel_rfl) ?_ _
   clear hHeld
   have eN:=hJ (bt aY.out aV.out)
   have eO:=hJ (BX.new gR.out eN.out)
   obtain ⟨gV,gW,gX,gY⟩:=eO.out.c4 0 1 2 3 rfl rfl rfl rfl
   have eP:=hJ (BX.new gT.out aV.out)
   obtain ⟨gZ,hA,hB,hC⟩:=eP.out.c4 0 1 2 3 rfl rfl rfl rfl
   have eQ:=hJ (PF.new gQ.out eN.out)
   have eR:=hJ (PF.new gS.out aV.out)
   go_wp2_with fail
   clear gV gW gX gY gZ hA hB hC
   refine (fcompare_any p0 q0 p0 q0 s11 t11 s12 t12 A11 B11 A12 B12 n11 c11 m11 d11 n12 c12 m12 d12 v8 eQ.out eR.out bB.out.1.1 bB.out.1.1 bB.out.2.1 bB.out.2.2 bB.out.2.1 bB.out.2.2).mono ?_
   rw [cmA_same (a:=p0*q0) (b:=p0*q0) rfl]
   rintro e w17 ⟨rfl,hb⟩
   have aZ:=hJ hb
   clear hb
   have hD:=hJ (BX.new eP.out aZ.out)
   obtain ⟨hE,hG,hH,hI⟩:=hD.out.c4 0 1 2 3 rfl rfl rfl rfl
   have hL:=hJ (PF.new eR.out aZ.out)
   go_wp2_with fail
   clear hE hG hH hI
   refine (fsign_any p0 q0 s12 t12 A12 B12 n12 c12 m12 d12 w17 hL.out bB.out.2.1).mono ?_
   rw [eL.out]
   rintro e w22 ⟨rfl,hb⟩
   have bF:=hJ hb
   clear hb
   have eS:=hJ (bt (bt aV.out aZ.out) bF.out)
   have aG:=hJ (OwnR.new aF.out eS.out)
   have bG:Hid (∀ w',Below w22.heap.size w22 w'→(fun w':World=>w'.cell? ⟨gq,0,none⟩=some ((U 0 0))∧w'.cell? ⟨gq,1,none⟩=some ((U 0 1))∧w'.cell? ⟨gq,2,none⟩=some ((U 0 2))∧w'.cell? ⟨gq,3,none⟩=some ((U 0 3))∧w'.cell? ⟨gq,4,none⟩=some ((U 0 4))∧w'.cell? ⟨gq,5,none⟩=some ((U 0 5))∧w'.cell? ⟨gq,6,none⟩=some ((U 0 6))∧w'.cell? ⟨gq,7,none⟩=some ((U 0 7))∧w'.cell? ⟨gq,8,none⟩=some ((U 1 0))∧w'.cell? ⟨gq,9,none⟩=some ((U 1 1))∧w'.cell? ⟨gq,10,none⟩=some ((U 1 2))∧w'.cell? ⟨gq,11,none⟩=some ((U 1 3))∧w'.cell? ⟨gq,12,none⟩=some ((U 1 4))∧w'.cell? ⟨gq,13,none⟩=some ((U 1 5))∧w'.cell? ⟨gq,14,none⟩=some ((U 1 6))∧w'.cell? ⟨gq,15,none⟩=some ((U 1 7))∧w'.cell? ⟨gq,24,none⟩=some ((U 3 0))∧w'.cell? ⟨gq,25,none⟩=some ((U 3 1))∧w'.cell? ⟨gq,26,none⟩=some ((U 3 2))∧w'.cell? ⟨gq,27,none⟩=some ((U 3 3))∧w'.cell? ⟨gq,28,none⟩=some ((U 3 4))∧w'.cell? ⟨gq,29,none⟩=some ((U 3 5))∧w'.cell? ⟨gq,30,none⟩=some ((U 3 6))∧w'.cell? ⟨gq,31,none⟩=some ((U 3 7))∧Below w22.heap.size w22 w') w'):=hJ (fun w' hb=>⟨(OwnR.new aG.out hb).at 0 rfl,(OwnR.new aG.out hb).at 1 rfl,(OwnR.new aG.out hb).at 2 rfl,(OwnR.new aG.out hb).at 3 rfl,(OwnR.new aG.out hb).at 4 rfl,(OwnR.new aG.out hb).at 5 rfl,(OwnR.new aG.out hb).at 6 rfl,(OwnR.new aG.out hb).at 7 rfl,(OwnR.new aG.out hb).at 8 rfl,(OwnR.new aG.out hb).at 9 rfl,(OwnR.new aG.out hb).at 10 rfl,(OwnR.new aG.out hb).at 11 rfl,(OwnR.new aG.out hb).at 12 rfl,(OwnR.new aG.out hb).at 13 rfl,(OwnR.new aG.out hb).at 14 rfl,(OwnR.new aG.out hb).at 15 rfl,(OwnR.new aG.out hb).at 24 rfl,(OwnR.new aG.out hb).at 25 rfl,(OwnR.new aG.out hb).at 26 rfl,(OwnR.new aG.out hb).at 27 rfl,(OwnR.new aG.out hb).at 28 rfl,(OwnR.new aG.out hb).at 29 rfl,(OwnR.new aG.out hb).at 30 rfl,(OwnR.new aG.out hb).at 31 rfl,hb⟩)
   have bN:=hJ (LFg.new cG.out eS.out)
   go_wp2_with fail
   obtain ⟨v23,hv23⟩:=nmz (World.drew w22)
   have bU:=hJ (show Below w22.heap.size w22 v23 by rw [←hv23]; exact (Below.refl _ _).drew)
   refine whd bG hv23 (fun hHeld=>?_)
   clear hv23
   refine tq 0 ?_
   refine tq 1 ?_
   refine tq 2 ?_
   refine tq 3 ?_
   refine tq 4 ?_
   refine tq 5 ?_
   refine tq 6 ?_
   refine tq 7 ?_
   refine tq 8 ?_
   try simp only [PT]
   refine wpAnyH_name (fun F hF a0 ha0 L0 hL0=>?_)
   have cI:∀ (s13:Bool) (A13:Option Addr) (n13:Nat) (c13:Nat) (t13:Bool) (B13:Option Addr) (m13:Nat) (d13:Nat) (aL:Nat) (v:World),Hid (Below w22.heap.size w22 v)→Hid (PF v s13 A13 n13 c13 t13 B13 m13 d13 p1 q1)→Hid (BX 27 v aL #[.bool false,.slice none 0 0,.bool false,.slice none 0 0])→Hid (w22.heap.size≤aL)→F 2 (Array.setIfInBounds (Array.setIfInBounds (Array.setIfInBounds (Array.setIfInBounds (Array.setIfInBounds L0 9 true) 13 true) 10 true) 11 true) 12 true) (Act.put (Act.put (Act.put (Act.put (Act.put a0 (some 155) (.tuple #[.agg #[.bool s13,.slice A13 n13 c13,.bool t13,.slice B13 m13 d13],.int .i64 e1])) (some 22) (.pointer (some ⟨aL,0,none⟩))) (some 145) (.tuple #[.agg #[.bool s13,.slice A13 n13 c13,.bool t13,.slice B13 m13 d13],.int .i64 e1])) (some 156) (.agg #[.bool s13,.slice A13 n13 c13,.bool t13,.slice B13 m13 d13])) (some 157) (.int .i64 e1)) v:=by
    intro s13 A13 n13 c13 t13 B13 m13 d13 aL v aB dD aS dE
    subst hF ha0 hL0
    simp only [PT] at  ⊢
    have hHeld:=bG.out _ aB.out
    refine ryy [14] ?_
    refine .cons rfl (fun K hK=>?_) .nil
    have z24_0:=aS.out.cell 0 rfl
    have y24_0:=aS.out.frozen 0
    have z24_1:=aS.out.cell 1 rfl
    have y24_1:=aS.out.frozen 1
    have z24_2:=aS.out.cell 2 rfl
    have y24_2:=aS.out.frozen 2
    have z24_3:=aS.out.cell 3 rfl
    have y24_3:=aS.out.frozen 3
    have z24:=aS.out.lt
    go_simp
    obtain ⟨v24,hV⟩:=nmz (World.setCell (World.setCell (World.setCell (World.setCell v ⟨aL,0,none⟩ (.bool s13)) ⟨aL,1,none⟩ (.slice A13 n13 c13)) ⟨aL,2,none⟩ (.bool t13)) ⟨aL,3,none⟩ (.slice B13 m13 d13))
    rw [hV]
    have dF:=hJ (show sto v aL 0 [.bool s13,.slice A13 n13 c13,.bool t13,.slice B13 m13 d13]=v24 from hV)
    clear hV z24 z24_0 y24_0 z24_1 y24_1 z24_2 y24_2 z24_3 y24_3
    have bA:=hJ (show Below w22.heap.size w22 v24 by rw [←dF.out]; exact below_sto aB.out dE.out _ _)
    have hM:=hJ (show PF v24 s13 A13 n13 c13 t13 B13 m13 d13 p1 q1 by rw [←dF.out]; exact PF.sto dD.out aS.out rfl _ _)
    have hN:=hJ (show BX 27 v24 aL #[.bool s13,.slice A13 n13 c13,.bool t13,.slice B13 m13 d13] by rw [←dF.out]; exact BX.put aS.out _ _)
    clear hHeld
    refine hK.out _ _ (bG.out _ bA.out) (fun hHeld=>?_)
    clear hK K
    refine tq 15 ?_
    try simp only [PT]
    refine wpAnyH_done (by kernel_rfl) ?_ _
    clear hHeld
    have aH:=hJ (OwnR.new aG.out bA.out)
    have bH:Hid (∀ w',Below v24.heap.size v24 w'→(fun w':World=>w'.cell? ⟨gq,8,none⟩=some ((U 1 0))∧w'.cell? ⟨gq,9,none⟩=some ((U 1 1))∧w'.cell? ⟨gq,10,none⟩=some ((U 1 2))∧w'.cell? ⟨gq,11,none⟩=some ((U 1 3))∧w'.cell? ⟨gq,12,none⟩=some ((U 1 4))∧w'.cell? ⟨gq,13,none⟩=some ((U 1 5))∧w'.cell? ⟨gq,14,none⟩=some ((U 1 6))∧w'.cell? ⟨gq,15,none⟩=some ((U 1 7))∧w'.cell? ⟨gq,16,none⟩=some ((U 2 0))∧w'.cell? ⟨gq,17,none⟩=some ((U 2 1))∧w'.cell? ⟨gq,18,none⟩=some ((U 2 2))∧w'.cell? ⟨gq,19,none⟩=some ((U 2 3))∧w'.cell? ⟨gq,20,none⟩=some ((U 2 4))∧w'.cell? ⟨gq,21,none⟩=some ((U 2 5))∧w'.cell? ⟨gq,22,none⟩=some ((U 2 6))∧w'.cell? ⟨gq,23,none⟩=some ((U 2 7))∧w'.cell? ⟨gq,24,none⟩=some ((U 3 0))∧w'.cell? ⟨gq,25,none⟩=some ((U 3 1))∧w'.cell? ⟨gq,26,none⟩=some ((U 3 2))∧w'.cell? ⟨gq,27,none⟩=some ((U 3 3))∧w'.cell? ⟨gq,28,none⟩=some ((U 3 4))∧w'.cell? ⟨gq,29,none⟩=some ((U 3 5))∧w'.cell? ⟨gq,30,none⟩=some ((U 3 6))∧w'.cell? ⟨gq,31,none⟩=some ((U 3 7))∧Below v24.heap.size v24 w') w'):=hJ (fun w' hb=>⟨(OwnR.new aH.out hb).at 8 rfl,(OwnR.new aH.out hb).at 9 rfl,(OwnR.new aH.out hb).at 10 rfl,(OwnR.new aH.out hb).at 11 rfl,(OwnR.new aH.out hb).at 12 rfl,(OwnR.new aH.out hb).at 13 rfl,(OwnR.new aH.out hb).at 14 rfl,(OwnR.new aH.out hb).at 15 rfl,(OwnR.new aH.out hb).at 16 rfl,(OwnR.new aH.out hb).at 17 rfl,(OwnR.new aH.out hb).at 18 rfl,(OwnR.new aH.out hb).at 19 rfl,(OwnR.new aH.out hb).at 20 rfl,(OwnR.new aH.out hb).at 21 rfl,(OwnR.new aH.out hb).at 22 rfl,(OwnR.new aH.out hb).at 23 rfl,(OwnR.new aH.out hb).at 24 rfl,(OwnR.new aH.out hb).at 25 rfl,(OwnR.new aH.out hb).at 26 rfl,(OwnR.new aH.out hb).at 27 rfl,(OwnR.new aH.out hb).at 28 rfl,(OwnR.new aH.out hb).at 29 rfl,(OwnR.new aH.out hb).at 30 rfl,(OwnR.new aH.out hb).at 31 rfl,hb⟩)
    have bO:=hJ (LFg.new bN.out bA.out)
    go_wp2_with fail
    obtain ⟨v26,hv26⟩:=nmz (World.drew v24)
    have bV:=hJ (show Below v24.heap.size v24 v26 by rw [←hv26]; exact (Below.refl _ _).drew)
    refine whd bH hv26 (fun hHeld=>?_)
    clear hv26
    refine tq 0 ?_
    refine tq 1 ?_
    refine tq 2 ?_
    refine tq 3 ?_
    refine tq 4 ?_
    refine tq 5 ?_
    refine tq 6 ?_
    refine tq 7 ?_
    refine tq 8 ?_
    try simp only [PT]
    refine wpAnyH_name (fun F hF a0 ha0 L0 hL0=>?_)
    have cJ:∀ (s14:Bool) (A14:Option Addr) (n14:Nat) (c14:Nat) (t14:Bool) (B14:Option Addr) (m14:Nat) (d14:Nat) (aM:Nat) (v:World),Hid (Below v24.heap.size v24 v)→Hid (PF v s14 A14 n14 c14 t14 B14 m14 d14 p2 q2)→Hid (BX 27 v aM #[.bool false,.slice none 0 0,.bool false,.slice none 0 0])→Hid (v24.heap.size≤aM)→F 2 (Array.setIfInBounds (Array.setIfInBounds (Array.setIfInBounds (Array.setIfInBounds (Array.setIfInBounds L0 9 true) 13 true) 10 true) 11 true) 12 true) (Act.put (Act.put (Act.put (Act.put (Act.put a0 (some 168) (.tuple #[.agg #[.bool s14,.slice A14 n14 c14,.bool t14,.slice B14 m14 d14],.int .i64 e2])) (some 24) (.pointer (some ⟨aM,0,none⟩))) (some 158) (.tuple #[.agg #[.bool s14,.slice A14 n14 c14,.bool t14,.slice B14 m14 d14],.int .i64 e2])) (some 169) (.agg #[.bool s14,.slice A14 n14 c14,.bool t14,.slice B14 m14 d14])) (some 170) (.int .i64 e2)) v:=by
     intro s14 A14 n14 c14 t14 B14 m14 d14 aM v aB dG aT dH
     subst hF ha0 hL0
     simp only [PT] at  ⊢
     have hHeld:=bH.out _ aB.out
     refine ryy [14] ?_
     refine .cons rfl (fun K hK=>?_) .nil
     have z27_0:=aT.out.cell 0 rfl
     have y27_0:=aT.out.frozen 0
     have z27_1:=aT.out.cell 1 rfl
     have y27_1:=aT.out.frozen 1
     have z27_2:=aT.out.cell 2 rfl
     have y27_2:=aT.out.frozen 2
     have z27_3:=aT.out.cell 3 rfl
     have y27_3:=aT.out.frozen 3
     have z27:=aT.out.lt
     go_simp
     obtain ⟨v27,hV⟩:=nmz (World.setCell (World.setCell (World.setCell (World.setCell v ⟨aM,0,none⟩ (.bool s14)) ⟨aM,1,none⟩ (.slice A14 n14 c14)) ⟨aM,2,none⟩ (.bool t14)) ⟨aM,3,none⟩ (.slice B14 m14 d14))
     rw [hV]
     have dI:=hJ (show sto v aM 0 [.bool s14,.slice A14 n14 c14,.bool t14,.slice B14 m14 d14]=v27 from hV)
     clear hV z27 z27_0 y27_0 z27_1 y27_1 z27_2 y27_2 z27_3 y27_3
     have aW:=hJ (show Below v24.heap.size v24 v27 by rw [←dI.out]; exact below_sto aB.out dH.out _ _)
     have hO:=hJ (show PF v27 s14 A14 n14 c14 t14 B14 m14 d14 p2 q2 by rw [←dI.out]; exact PF.sto dG.out aT.out rfl _ _)
     have hP:=hJ (show BX 27 v27 aM #[.bool s14,.slice A14 n14 c14,.bool t14,.slice B14 m14 d14] by rw [←dI.out]; exact BX.put aT.out _ _)
     clear hHeld
     refine hK.out _ _ (bH.out _ aW.out) (fun hHeld=>?_)
     clear hK K
     refine tq 15 ?_
     try simp only [PT]
     refine wpAnyH_done (by kernel_rfl) ?_ _
     clear hHeld
     have aI:=hJ (OwnR.new aH.out aW.out)
     have bJ:Hid (∀ w',Below v27.heap.size v27 w'→(fun w':World=>w'.cell? ⟨gq,16,none⟩=some ((U 2 0))∧w'.cell? ⟨gq,17,none⟩=some ((U 2 1))∧w'.cell? ⟨gq,18,none⟩=some ((U 2 2))∧w'.cell? ⟨gq,19,none⟩=some ((U 2 3))∧w'.cell? ⟨gq,20,none⟩=some ((U 2 4))∧w'.cell? ⟨gq,21,none⟩=some ((U 2 5))∧w'.cell? ⟨gq,22,none⟩=some ((U 2 6))∧w'.cell? ⟨gq,23,none⟩=some ((U 2 7))∧w'.cell? ⟨gq,0,none⟩=some ((U 0 0))∧w'.cell? ⟨gq,1,none⟩=some ((U 0 1))∧w'.cell? ⟨gq,2,none⟩=some ((U 0 2))∧w'.cell? ⟨gq,3,none⟩=some ((U 0 3))∧w'.cell? ⟨gq,4,none⟩=some ((U 0 4))∧w'.cell? ⟨gq,5,none⟩=some ((U 0 5))∧w'.cell? ⟨gq,6,none⟩=some ((U 0 6))∧w'.cell? ⟨gq,7,none⟩=some ((U 0 7))∧w'.cell? ⟨gq,24,none⟩=some ((U 3 0))∧w'.cell? ⟨gq,25,none⟩=some ((U 3 1))∧w'.cell? ⟨gq,26,none⟩=some ((U 3 2))∧w'.cell? ⟨gq,27,none⟩=some ((U 3 3))∧w'.cell? ⟨gq,28,none⟩=some ((U 3 4))∧w'.cell? ⟨gq,29,none⟩=some ((U 3 5))∧w'.cell? ⟨gq,30,none⟩=some ((U 3 6))∧w'.cell? ⟨gq,31,none⟩=some ((U 3 7))∧Below v27.heap.size v27 w') w'):=hJ (fun w' hb=>⟨(OwnR.new aI.out hb).at 16 rfl,(OwnR.new aI.out hb).at 17 rfl,(OwnR.new aI.out hb).at 18 rfl,(OwnR.new aI.out hb).at 19 rfl,(OwnR.new aI.out hb).at 20 rfl,(OwnR.new aI.out hb).at 21 rfl,(OwnR.new aI.out hb).at 22 rfl,(OwnR.new aI.out hb).at 23 rfl,(OwnR.new aI.out hb).at 0 rfl,(OwnR.new aI.out hb).at 1 rfl,(OwnR.new aI.out hb).at 2 rfl,(OwnR.new aI.out hb).at 3 rfl,(OwnR.new aI.out hb).at 4 rfl,(OwnR.new aI.out hb).at 5 rfl,(OwnR.new aI.out hb).at 6 rfl,(OwnR.new aI.out hb).at 7 rfl,(OwnR.new aI.out hb).at 24 rfl,(OwnR.new aI.out hb).at 25 rfl,(OwnR.new aI.out hb).at 26 rfl,(OwnR.new aI.out hb).at 27 rfl,(OwnR.new aI.out hb).at 28 rfl,(OwnR.new aI.out hb).at 29 rfl,(OwnR.new aI.out hb).at 30 rfl,(OwnR.new aI.out hb).at 31 rfl,hb⟩)
     have bW:=hJ (LFg.new bO.out aW.out)
     go_wp2_with fail
     obtain ⟨v29,hv29⟩:=nmz (World.drew v27)
     have bX:=hJ (show Below v27.heap.size v27 v29 by rw [←hv29]; exact (Below.refl _ _).drew)
     refine whd bJ hv29 (fun hHeld=>?_)
     clear hv29
     refine tq 0 ?_
     refine tq 1 ?_
     refine tq 2 ?_
     refine tq 3 ?_
     refine tq 4 ?_
     refine tq 5 ?_
     refine tq 6 ?_
     refine tq 7 ?_
     refine tq 8 ?_
     try simp only [PT]
     refine wpAnyH_name (fun F hF a0 ha0 L0 hL0=>?_)
     have cK:∀ (s15:Bool) (A15:Option Addr) (n15:Nat) (c15:Nat) (t15:Bool) (B15:Option Addr) (m15:Nat) (d15:Nat) (aN:Nat) (v:World),Hid (Below v27.heap.size v27 v)→Hid (PF v s15 A15 n15 c15 t15 B15 m15 d15 p3 q3)→Hid (BX 27 v aN #[.bool false,.slice none 0 0,.bool false,.slice none 0 0])→Hid (v27.heap.size≤aN)→F 2 (Array.setIfInBounds (Array.setIfInBounds (Array.setIfInBounds (Array.setIfInBounds (Array.setIfInBounds L0 9 true) 13 true) 10 true) 11 true) 12 true) (Act.put (Act.put (Act.put (Act.put (Act.put a0 (some 181) (.tuple #[.agg #[.bool s15,.slice A15 n15 c15,.bool t15,.slice B15 m15 d15],.int .i64 e3])) (some 26) (.pointer (some ⟨aN,0,none⟩))) (some 171) (.tuple #[.agg #[.bool s15,.slice A15 n15 c15,.bool t15,.slice B15 m15 d15],.int .i64 e3])) (some 182) (.agg #[.bool s15,.slice A15 n15 c15,.bool t15,.slice B15 m15 d15])) (some 183) (.int .i64 e3)) v:=by
      intro s15 A15 n15 c15 t15 B15 m15 d15 aN v aB dJ aU dK
      subst hF ha0 hL0
      simp only [PT] at  ⊢
      have hHeld:=bJ.out _ aB.out
      refine ryy [14] ?_
      refine .cons rfl (fun K hK=>?_) .nil
      have z30_0:=aU.out.cell 0 rfl
      have y30_0:=aU.out.frozen 0
      have z30_1:=aU.out.cell 1 rfl
      have y30_1:=aU.out.frozen 1
      have z30_2:=aU.out.cell 2 rfl
      have y30_2:=aU.out.frozen 2
      have z30_3:=aU.out.cell 3 rfl
      have y30_3:=aU.out.frozen 3
      have z30:=aU.out.lt
      go_simp
      obtain ⟨v30,hV⟩:=nmz (World.setCell (World.setCell (World.setCell (World.setCell v ⟨aN,0,none⟩ (.bool s15)) ⟨aN,1,none⟩ (.slice A15 n15 c15)) ⟨aN,2,none⟩ (.bool t15)) ⟨aN,3,none⟩ (.slice B15 m15 d15))
      rw [hV]
      have dL:=hJ (show sto v aN 0 [.bool s15,.slice A15 n15 c15,.bool t15,.slice B15 m15 d15]=v30 from hV)
      clear hV z30 z30_0 y30_0 z30_1 y30_1 z30_2 y30_2 z30_3 y30_3
      have aX:=hJ (show Below v27.heap.size v27 v30 by rw [←dL.out]; exact below_sto aB.out dK.out _ _)
      have hQ:=hJ (show PF v30 s15 A15 n15 c15 t15 B15 m15 d15 p3 q3 by rw [←dL.out]; exact PF.sto dJ.out aU.out rfl _ _)
      have hR:=hJ (show BX 27 v30 aN #[.bool s15,.slice A15 n15 c15,.bool t15,.slice B15 m15 d15] by rw [←dL.out]; exact BX.put aU.out _ _)
      clear hHeld
      refine hK.out _ _ (bJ.out _ aX.out) (fun hHeld=>?_)
      clear hK K
      refine tq 15 ?_
      try simp only [PT]
      refine wpAnyH_done (by kernel_rfl) ?_ _
      clear hHeld
      rcases (show (¬ e0=0)∨(e0=0∧¬ e1=0)∨(e0=0∧e1=0∧¬ e2=0)∨(e0=0∧e1=0∧e2=0∧¬ e3=0)∨(e0=0∧e1=0∧e2=0∧e3=0) by by_cases h0:e0=0 <;> by_cases h1:e1=0 <;> by_cases h2:e2=0 <;> by_cases h3:e3=0 <;> simp [*]) with hc | ⟨rfl,hc⟩ | ⟨rfl,rfl,hc⟩ | ⟨rfl,rfl,rfl,hc⟩ | ⟨rfl,rfl,rfl,rfl⟩
      ·have hcz:(e0 == 0)=false:=by simp [hc]
       go_wp2_with fail
       refine (lives6_any v30).mono ?_
       rintro e w32 ⟨rfl,hb⟩
       have hS:=hJ hb
       clear hb
       have bP:=hJ (bt (bt (bt (bt (bt (bt (bt (bt bC.out aY.out) aV.out) aZ.out) bF.out) bA.out) aW.out) aX.out) hS.out)
       go_wp2
       go_ret
       exact ⟨rfl,bt bL.out bP.out⟩
      ·have hcz:(e1 == 0)=false:=by simp [hc]
       go_wp2_with fail
       refine (lives6_any v30).mono ?_
       rintro e w33 ⟨rfl,hb⟩
       have hT:=hJ hb
       clear hb
       have bP:=hJ (bt (bt (bt (bt (bt (bt (bt (bt bC.out aY.out) aV.out) aZ.out) bF.out) bA.out) aW.out) aX.out) hT.out)
       go_wp2
       go_ret
       exact ⟨rfl,bt bL.out bP.out⟩
      ·have hcz:(e2 == 0)=false:=by simp [hc]
       go_wp2_with fail
       refine (lives6_any v30).mono ?_
       rintro e w34 ⟨rfl,hb⟩
       have hU:=hJ hb
       clear hb
       have bP:=hJ (bt (bt (bt (bt (bt (bt (bt (bt bC.out aY.out) aV.out) aZ.out) bF.out) bA.out) aW.out) aX.out) hU.out)
       go_wp2
       go_ret
       exact ⟨rfl,bt bL.out bP.out⟩
      ·have hcz:(e3 == 0)=false:=by simp [hc]
       go_wp2_with fail
       refine (lives6_any v30).mono ?_
       rintro e w35 ⟨rfl,hb⟩
       have hW:=hJ hb
       clear hb
       have bP:=hJ (bt (bt (bt (bt (bt (bt (bt (bt bC.out aY.out) aV.out) aZ.out) bF.out) bA.out) aW.out) aX.out) hW.out)
       go_wp2
       go_ret
       exact ⟨rfl,bt bL.out bP.out⟩
      skip
      have eT:=hJ (bt aW.out aX.out)
      have hX:=hJ (BX.new hN.out eT.out)
      obtain ⟨hY,hZ,iA,iB⟩:=hX.out.c4 0 1 2 3 rfl rfl rfl rfl
      have iC:=hJ (BX.new hP.out aX.out)
      obtain ⟨iD,iE,iF,iG⟩:=iC.out.c4 0 1 2 3 rfl rfl rfl rfl
      obtain ⟨P16,hP16⟩:=nmz (adP p1 q1 p2 q2)
      have dM:=hJ hP16
      clear hP16
      obtain ⟨Q17,hQ17⟩:=nmz (adQ p1 q1 p2 q2)
      have dN:=hJ hQ17
      clear hQ17
      obtain ⟨C18,hC18⟩:=nmz (adC p1 q1 p2 q2)
      have eU:=hJ hC18
      clear hC18
      have cL:=hJ (show Fr P16 Q17 by rw [←dM.out,←dN.out]; exact fr_ad cB.out cC.out)
      have iH:=hJ (PF.new hM.out eT.out)
      have iI:=hJ (PF.new hO.out aX.out)
      go_wp2_with fail
      clear hY hZ iA iB iD iE iF iG
      refine (fadd_any p1 q1 p2 q2 s13 t13 s14 t14 A13 B13 A14 B14 n13 c13 m13 d13 n14 c14 m14 d14 v30 iH.out iI.out cB.out.1.1 cC.out.1.1 cB.out.2.1 cB.out.2.2 cC.out.2.1 cC.out.2.2).mono ?_
      rw [dM.out,dN.out,eU.out]
      rintro e w44 ⟨s20,A20,n20,c20,t20,B20,m20,d20,rfl,hr20,hb⟩
      have cA:=hJ hb
      have iJ:=hJ hr20
      clear hb hr20
      obtain ⟨x45,dO⟩:=nmz (w44.alloc (.cells #[.bool s20,.slice A20 n20 c20,.bool t20,.slice B20 m20 d20] 27))
      have bY:=hJ (show Below w44.heap.size w44 x45 by rw [←dO]; exact ((Below.refl _ _).alloc (Nat.le_refl _) _))
      have iK:=hJ (show BX 27 x45 w44.heap.size #[.bool s20,.slice A20 n20 c20,.bool t20,.slice B20 m20 d20] by rw [←dO]; exact (BX.at rfl))
      obtain ⟨iL,iM,iN,iO⟩:=iK.out.c4 0 1 2 3 rfl rfl rfl rfl
      have eV:=hJ (bt cA.out bY.out)
      have iP:=hJ (BX.new hR.out eV.out)
      obtain ⟨iQ,iR,iS,iT⟩:=iP.out.c4 0 1 2 3 rfl rfl rfl rfl
      obtain ⟨P21,hP21⟩:=nmz (adP P16 Q17 p3 q3)
      have dP:=hJ hP21
      clear hP21
      obtain ⟨Q22,hQ22⟩:=nmz (adQ P16 Q17 p3 q3)
      have dQ:=hJ hQ22
      clear hQ22
      obtain ⟨C23,hC23⟩:=nmz (adC P16 Q17 p3 q3)
      have eW:=hJ hC23
      clear hC23
      have dR:=hJ (show Fr P21 Q22 by rw [←dP.out,←dQ.out]; exact fr_ad cL.out cD.out)
      have iU:=hJ (PF.new iJ.out bY.out)
      have iV:=hJ (PF.new hQ.out eV.out)
      go_wp2_with fail
      clear dO iL iM iN iO iQ iR iS iT
      refine (fadd_any P16 Q17 p3 q3 s20 t20 s15 t15 A20 B20 A15 B15 n20 c20 m20 d20 n15 c15 m15 d15 x45 iU.out iV.out cL.out.1.1 cD.out.1.1 cL.out.2.1 cL.out.2.2 cD.out.2.1 cD.out.2.2).mono ?_
      rw [dP.out,dQ.out,eW.out]
      rintro e w54 ⟨s25,A25,n25,c25,t25,B25,m25,d25,rfl,hr25,hb⟩
      have cM:=hJ hb
      have iW:=hJ hr25
      clear hb hr25
      rcases (show ¬ C18=0∨(C18=0∧¬ C23=0)∨(C18=0∧C23=0) by by_cases h0:C18=0 <;> by_cases h1:C23=0 <;> simp [*]) with hc | ⟨rfl,hc⟩ | ⟨rfl,rfl⟩
      ·have hcz:(C18 == 0)=false:=by simp [hc]
       obtain ⟨x55,eX⟩:=nmz (w54.alloc (.cells #[.bool s25,.slice A25 n25 c25,.bool t25,.slice B25 m25 d25] 27))
       have iX:=hJ (show Below w54.heap.size w54 x55 by rw [←eX]; exact ((Below.refl _ _).alloc (Nat.le_refl _) _))
       go_wp2_with fail
       clear eX
       refine (lives6_any x55).mono ?_
       rintro e w56 ⟨rfl,hb⟩
       have iY:=hJ hb
       clear hb
       have dS:=hJ (bt (bt (bt (bt (bt (bt (bt (bt (bt (bt (bt (bt bC.out aY.out) aV.out) aZ.out) bF.out) bA.out) aW.out) aX.out) cA.out) bY.out) cM.out) iX.out) iY.out)
       go_wp2
       go_ret
       exact ⟨rfl,bt bL.out dS.out⟩
      ·have hcz:(C23 == 0)=false:=by simp [hc]
       obtain ⟨x57,eY⟩:=nmz (w54.alloc (.cells #[.bool s25,.slice A25 n25 c25,.bool t25,.slice B25 m25 d25] 27))
       have iZ:=hJ (show Below w54.heap.size w54 x57 by rw [←eY]; exact ((Below.refl _ _).alloc (Nat.le_refl _) _))
       go_wp2_with fail
       clear eY
       refine (lives6_any x57).mono ?_
       rintro e w58 ⟨rfl,hb⟩
       have jA:=hJ hb
       clear hb
       have dS:=hJ (bt (bt (bt (bt (bt (bt (bt (bt (bt (bt (bt (bt bC.out aY.out) aV.out) aZ.out) bF.out) bA.out) aW.out) aX.out) cA.out) bY.out) cM.out) iZ.out) jA.out)
       go_wp2
       go_ret
       exact ⟨rfl,bt bL.out dS.out⟩
      have eZ:=hJ (show P21=p0∧Q22=q0 by
       have h:=gP.out (by simp) (by simp) (by simp) (by simp)
       rw [dM.out,dN.out,eU.out,dP.out,dQ.out,eW.out] at h
       exact h (by simp) (by simp))
      obtain ⟨x59,dT⟩:=nmz (w54.alloc (.cells #[.bool s25,.slice A25 n25 c25,.bool t25,.slice B25 m25 d25] 27))
      have dU:=hJ (show Below w54.heap.size w54 x59 by rw [←dT]; exact ((Below.refl _ _).alloc (Nat.le_refl _) _))
      have jB:=hJ (show BX 27 x59 w54.heap.size #[.bool s25,.slice A25 n25 c25,.bool t25,.slice B25 m25 d25] by rw [←dT]; exact (BX.at rfl))
      obtain ⟨jC,jD,jE,jF⟩:=jB.out.c4 0 1 2 3 rfl rfl rfl rfl
      have fA:=hJ (bt (bt (bt (bt (bt (bt (bt (bt aZ.out bF.out) bA.out) aW.out) aX.out) cA.out) bY.out) cM.out) dU.out)
      have jG:=hJ (BX.new eO.out fA.out)
      obtain ⟨jH,jI,jJ,jK⟩:=jG.out.c4 0 1 2 3 rfl rfl rfl rfl
      have jL:=hJ (PF.new iW.out dU.out)
      have jM:=hJ (PF.new eQ.out fA.out)
      go_wp2_with fail
      clear dT jC jD jE jF jH jI jJ jK
      refine (fcompare_any P21 Q22 p0 q0 s25 t25 s11 t11 A25 B25 A11 B11 n25 c25 m25 d25 n11 c11 m11 d11 x59 jL.out jM.out dR.out.1.1 bB.out.1.1 dR.out.2.1 dR.out.2.2 bB.out.2.1 bB.out.2.2).mono ?_
      rw [cmA_same (a:=P21*q0) (b:=p0*Q22) (by rw [eZ.out.1,eZ.out.2])]
      rintro e w68 ⟨rfl,hb⟩
      have jN:=hJ hb
      clear hb
      go_wp2_with fail
      refine (lives6_any w68).mono ?_
      rintro e w69 ⟨rfl,hb⟩
      have jO:=hJ hb
      clear hb
      have jP:=hJ (bt (bt (bt (bt (bt (bt (bt (bt (bt (bt (bt (bt (bt bC.out aY.out) aV.out) aZ.out) bF.out) bA.out) aW.out) aX.out) cA.out) bY.out) cM.out) dU.out) jN.out) jO.out)
      go_wp2
      go_ret
      exact ⟨rfl,bt bL.out jP.out⟩
     have fB:∀ (s15:Bool) (A15:Option Addr) (n15:Nat) (c15:Nat) (t15:Bool) (B15:Option Addr) (m15:Nat) (d15:Nat) (v:World),Hid (Below v27.heap.size v27 v)→Hid (PF v s15 A15 n15 c15 t15 B15 m15 d15 p3 q3)→F 3 (Array.setIfInBounds (Array.setIfInBounds (Array.setIfInBounds (Array.setIfInBounds L0 9 true) 10 true) 11 true) 12 true) (Act.put (Act.put (Act.put (Act.put a0 (some 181) (.tuple #[.agg #[.bool s15,.slice A15 n15 c15,.bool t15,.slice B15 m15 d15],.int .i64 e3])) (some 171) (.tuple #[.agg #[.bool s15,.slice A15 n15 c15,.bool t15,.slice B15 m15 d15],.int .i64 e3])) (some 182) (.agg #[.bool s15,.slice A15 n15 c15,.bool t15,.slice B15 m15 d15])) (some 183) (.int .i64 e3)) v:=by
      intro s15 A15 n15 c15 t15 B15 m15 d15 v aB dJ
      subst hF ha0 hL0
      simp only [PT] at cK ⊢
      have hHeld:=bJ.out _ aB.out
      refine ryy [13] ?_
      refine .cons rfl (fun K hK=>?_) .nil
      go_simp
      have dW:=hJ ((Below.refl v.heap.size v).alloc (Nat.le_refl _) (.cells #[.bool false,.slice none 0 0,.bool false,.slice none 0 0] 27))
      have dX:=hJ (BX.lit v 27 #[.bool false,.slice none 0 0,.bool false,.slice none 0 0])
      obtain ⟨v70,hV⟩:=nmz (World.alloc v (.cells #[.bool false,.slice none 0 0,.bool false,.slice none 0 0] 27))
      obtain ⟨aN,hg⟩:=nmz (v.heap.size)
      rw [hV] at dW dX ⊢
      rw [hg] at dX ⊢
      have jQ:=hJ (show v27.heap.size≤aN by rw [←hg]; exact aB.out.size)
      clear hV hg
      have fC:=hJ (bt aB.out dW.out)
      have jR:=hJ (PF.new dJ.out dW.out)
      clear hHeld
      refine hK.out _ _ (bJ.out _ fC.out) (fun hHeld=>?_)
      clear hK K
      try simp only [PT]
      exact wpAnyH_cast (by kernel_rfl) (cK s15 A15 n15 c15 t15 B15 m15 d15 aN v70 fC jR dX jQ)
     have fD:∀ (aN:Nat) (v:World),Hid (Below v27.heap.size v27 v)→Hid (BX 27 v aN #[.bool false,.slice none 0 0,.bool false,.slice none 0 0])→Hid (v27.heap.size≤aN)→F 6 (Array.setIfInBounds L0 13 true) (Act.put a0 (some 26) (.pointer (some ⟨aN,0,none⟩))) v:=by
      intro aN v aB aU dK
      subst hF ha0 hL0
      simp only [PT] at cK ⊢
      have hHeld:=bJ.out _ aB.out
      refine ryy [9] ?_
      refine .cons rfl (fun K hK=>?_) .nil
      go_simp
      go_at_call 23
      refine (areaw_any v ((LFg.new bW.out aB.out) 2 (by decide)) ((LFg.new bW.out aB.out) 0 (by decide)) ((LFg.new bW.out aB.out) 3 (by decide)) (aA.out 2 (by decide)).1 (aA.out 2 (by decide)).2 (aA.out 0 (by decide)).1 (aA.out 0 (by decide)).2 (aA.out 3 (by decide)).1 (aA.out 3 (by decide)).2).mono ?_
      rw [cT.out,cU.out,cV.out]
      rintro e v71 ⟨s15,A15,n15,c15,t15,B15,m15,d15,rfl,hr15,hb⟩
      have fE:=hJ hb
      have jS:=hJ hr15
      clear hb hr15
      go_wp2_with fail
      have fF:=hJ (bt aB.out fE.out)
      have jT:=hJ (BX.new aU.out fE.out)
      clear hHeld
      refine hK.out _ _ (bJ.out _ fF.out) (fun hHeld=>?_)
      clear hK K
      refine tq 10 ?_
      refine tq 11 ?_
      refine tq 12 ?_
      try simp only [PT]
      exact wpAnyH_cast (by kernel_rfl) (cK s15 A15 n15 c15 t15 B15 m15 d15 aN v71 fF jS jT dK)
     subst hF ha0 hL0
     simp only [PT] at fB fD
     refine ryy [9,13] ?_
     refine .cons rfl (fun K hK=>?_) ?_
     go_simp
     go_at_call 23
     refine (areaw_any v29 ((LFg.new bW.out bX.out) 2 (by decide)) ((LFg.new bW.out bX.out) 0 (by decide)) ((LFg.new bW.out bX.out) 3 (by decide)) (aA.out 2 (by decide)).1 (aA.out 2 (by decide)).2 (aA.out 0 (by decide)).1 (aA.out 0 (by decide)).2 (aA.out 3 (by decide)).1 (aA.out 3 (by decide)).2).mono ?_
     rw [cT.out,cU.out,cV.out]
     rintro e v72 ⟨s15,A15,n15,c15,t15,B15,m15,d15,rfl,hr15,hb⟩
     have jU:=hJ hb
     have jV:=hJ hr15
     clear hb hr15
     go_wp2_with fail
     have fG:=hJ (bt bX.out jU.out)
     clear hHeld
     refine hK.out _ _ (bJ.out _ fG.out) (fun hHeld=>?_)
     clear hK K
     refine tq 10 ?_
     refine tq 11 ?_
     refine tq 12 ?_
     try simp only [PT]
     exact wpAnyH_cast (by kernel_rfl) (fB s15 A15 n15 c15 t15 B15 m15 d15 v72 fG jV)
     refine .cons rfl (fun K hK=>?_) .nil
     go_simp
     have fH:=hJ ((Below.refl v29.heap.size v29).alloc (Nat.le_refl _) (.cells #[.bool false,.slice none 0 0,.bool false,.slice none 0 0] 27))
     have dY:=hJ (BX.lit v29 27 #[.bool false,.slice none 0 0,.bool false,.slice none 0 0])
     obtain ⟨v73,hV⟩:=nmz (World.alloc v29 (.cells #[.bool false,.slice none 0 0,.bool false,.slice none 0 0] 27))
     obtain ⟨aN,hg⟩:=nmz (v29.heap.size)
     rw [hV] at fH dY ⊢
     rw [hg] at dY ⊢
     have jW:=hJ (show v27.heap.size≤aN by rw [←hg]; exact bX.out.size)
     clear hV hg
     have fI:=hJ (bt bX.out fH.out)
     clear hHeld
     refine hK.out _ _ (bJ.out _ fI.out) (fun hHeld=>?_)
     clear hK K
     try simp only [PT]
     exact wpAnyH_cast (by kernel_rfl) (fD aN v73 fI dY jW)
    have fJ:∀ (s14:Bool) (A14:Option Addr) (n14:Nat) (c14:Nat) (t14:Bool) (B14:Option Addr) (m14:Nat) (d14:Nat) (v:World),Hid (Below v24.heap.size v24 v)→Hid (PF v s14 A14 n14 c14 t14 B14 m14 d14 p2 q2)→F 3 (Array.setIfInBounds (Array.setIfInBounds (Array.setIfInBounds (Array.setIfInBounds L0 9 true) 10 true) 11 true) 12 true) (Act.put (Act.put (Act.put (Act.put a0 (some 168) (.tuple #[.agg #[.bool s14,.slice A14 n14 c14,.bool t14,.slice B14 m14 d14],.int .i64 e2])) (some 158) (.tuple #[.agg #[.bool s14,.slice A14 n14 c14,.bool t14,.slice B14 m14 d14],.int .i64 e2])) (some 169) (.agg #[.bool s14,.slice A14 n14 c14,.bool t14,.slice B14 m14 d14])) (some 170) (.int .i64 e2)) v:=by
     intro s14 A14 n14 c14 t14 B14 m14 d14 v aB dG
     subst hF ha0 hL0
     simp only [PT] at cJ ⊢
     have hHeld:=bH.out _ aB.out
     refine ryy [13] ?_
     refine .cons rfl (fun K hK=>?_) .nil
     go_simp
     have dZ:=hJ ((Below.refl v.heap.size v).alloc (Nat.le_refl _) (.cells #[.bool false,.slice none 0 0,.bool false,.slice none 0 0] 27))
     have eA:=hJ (BX.lit v 27 #[.bool false,.slice none 0 0,.bool false,.slice none 0 0])
     obtain ⟨v74,hV⟩:=nmz (World.alloc v (.cells #[.bool false,.slice none 0 0,.bool false,.slice none 0 0] 27))
     obtain ⟨aM,hg⟩:=nmz (v.heap.size)
     rw [hV] at dZ eA ⊢
     rw [hg] at eA ⊢
     have jX:=hJ (show v24.heap.size≤aM by rw [←hg]; exact aB.out.size)
     clear hV hg
     have fK:=hJ (bt aB.out dZ.out)
     have jY:=hJ (PF.new dG.out dZ.out)
     clear hHeld
     refine hK.out _ _ (bH.out _ fK.out) (fun hHeld=>?_)
     clear hK K
     try simp only [PT]
     exact wpAnyH_cast (by kernel_rfl) (cJ s14 A14 n14 c14 t14 B14 m14 d14 aM v74 fK jY eA jX)
    have fL:∀ (aM:Nat) (v:World),Hid (Below v24.heap.size v24 v)→Hid (BX 27 v aM #[.bool false,.slice none 0 0,.bool false,.slice none 0 0])→Hid (v24.heap.size≤aM)→F 6 (Array.setIfInBounds L0 13 true) (Act.put a0 (some 24) (.pointer (some ⟨aM,0,none⟩))) v:=by
     intro aM v aB aT dH
     subst hF ha0 hL0
     simp only [PT] at cJ ⊢
     have hHeld:=bH.out _ aB.out
     refine ryy [9] ?_
     refine .cons rfl (fun K hK=>?_) .nil
     go_simp
     go_at_call 23
     refine (areaw_any v ((LFg.new bO.out aB.out) 1 (by decide)) ((LFg.new bO.out aB.out) 2 (by decide)) ((LFg.new bO.out aB.out) 3 (by decide)) (aA.out 1 (by decide)).1 (aA.out 1 (by decide)).2 (aA.out 2 (by decide)).1 (aA.out 2 (by decide)).2 (aA.out 3 (by decide)).1 (aA.out 3 (by decide)).2).mono ?_
     rw [cQ.out,cR.out,cS.out]
     rintro e v75 ⟨s14,A14,n14,c14,t14,B14,m14,d14,rfl,hr14,hb⟩
     have fM:=hJ hb
     have jZ:=hJ hr14
     clear hb hr14
     go_wp2_with fail
     have fN:=hJ (bt aB.out fM.out)
     have kA:=hJ (BX.new aT.out fM.out)
     clear hHeld
     refine hK.out _ _ (bH.out _ fN.out) (fun hHeld=>?_)
     clear hK K
     refine tq 10 ?_
     refine tq 11 ?_
     refine tq 12 ?_
     try simp only [PT]
     exact wpAnyH_cast (by kernel_rfl) (cJ s14 A14 n14 c14 t14 B14 m14 d14 aM v75 fN jZ kA dH)
    subst hF ha0 hL0
    simp only [PT] at fJ fL
    refine ryy [9,13] ?_
    refine .cons rfl (fun K hK=>?_) ?_
    go_simp
    go_at_call 23
    refine (areaw_any v26 ((LFg.new bO.out bV.out) 1 (by decide)) ((LFg.new bO.out bV.out) 2 (by decide)) ((LFg.new bO.out bV.out) 3 (by decide)) (aA.out 1 (by decide)).1 (aA.out 1 (by decide)).2 (aA.out 2 (by decide)).1 (aA.out 2 (by decide)).2 (aA.out 3 (by decide)).1 (aA.out 3 (by decide)).2).mono ?_
    rw [cQ.out,cR.out,cS.out]
    rintro e v76 ⟨s14,A14,n14,c14,t14,B14,m14,d14,rfl,hr14,hb⟩
    have kB:=hJ hb
    have kC:=hJ hr14
    clear hb hr14
    go_wp2_with fail
    have fO:=hJ (bt bV.out kB.out)
    clear hHeld
    refine hK.out _ _ (bH.out _ fO.out) (fun hHeld=>?_)
    clear hK K
    refine tq 10 ?_
    refine tq 11 ?_
    refine tq 12 ?_
    try simp only [PT]
    exact wpAnyH_cast (by kernel_rfl) (fJ s14 A14 n14 c14 t14 B14 m14 d14 v76 fO kC)
    refine .cons rfl (fun K hK=>?_) .nil
    go_simp
    have fP:=hJ ((Below.refl v26.heap.size v26).alloc (Nat.le_refl _) (.cells #[.bool false,.slice none 0 0,.bool false,.slice none 0 0] 27))
    have eB:=hJ (BX.lit v26 27 #[.bool false,.slice none 0 0,.bool false,.slice none 0 0])
    obtain ⟨v77,hV⟩:=nmz (World.alloc v26 (.cells #[.bool false,.slice none 0 0,.bool false,.slice none 0 0] 27))
    obtain ⟨aM,hg⟩:=nmz (v26.heap.size)
    rw [hV] at fP eB ⊢
    rw [hg] at eB ⊢
    have kD:=hJ (show v24.heap.size≤aM by rw [←hg]; exact bV.out.size)
    clear hV hg
    have fQ:=hJ (bt bV.out fP.out)
    clear hHeld
    refine hK.out _ _ (bH.out _ fQ.out) (fun hHeld=>?_)
    clear hK K
    try simp only [PT]
    exact wpAnyH_cast (by kernel_rfl) (fL aM v77 fQ eB kD)
   have fR:∀ (s13:Bool) (A13:Option Addr) (n13:Nat) (c13:Nat) (t13:Bool) (B13:Option Addr) (m13:Nat) (d13:Nat) (v:World),Hid (Below w22.heap.size w22 v)→Hid (PF v s13 A13 n13 c13 t13 B13 m13 d13 p1 q1)→F 3 (Array.setIfInBounds (Array.setIfInBounds (Array.setIfInBounds (Array.setIfInBounds L0 9 true) 10 true) 11 true) 12 true) (Act.put (Act.put (Act.put (Act.put a0 (some 155) (.tuple #[.agg #[.bool s13,.slice A13 n13 c13,.bool t13,.slice B13 m13 d13],.int .i64 e1])) (some 145) (.tuple #[.agg #[.bool s13,.slice A13 n13 c13,.bool t13,.slice B13 m13 d13],.int .i64 e1])) (some 156) (.agg #[.bool s13,.slice A13 n13 c13,.bool t13,.slice B13 m13 d13])) (some 157) (.int .i64 e1)) v:=by
    intro s13 A13 n13 c13 t13 B13 m13 d13 v aB dD
    subst hF ha0 hL0
    simp only [PT] at cI ⊢
    have hHeld:=bG.out _ aB.out
    refine ryy [13] ?_
    refine .cons rfl (fun K hK=>?_) .nil
    go_simp
    have eC:=hJ ((Below.refl v.heap.size v).alloc (Nat.le_refl _) (.cells #[.bool false,.slice none 0 0,.bool false,.slice none 0 0] 27))
    have eD:=hJ (BX.lit v 27 #[.bool false,.slice none 0 0,.bool false,.slice none 0 0])
    obtain ⟨v78,hV⟩:=nmz (World.alloc v (.cells #[.bool false,.slice none 0 0,.bool false,.slice none 0 0] 27))
    obtain ⟨aL,hg⟩:=nmz (v.heap.size)
    rw [hV] at eC eD ⊢
    rw [hg] at eD ⊢
    have kE:=hJ (show w22.heap.size≤aL by rw [←hg]; exact aB.out.size)
    clear hV hg
    have fS:=hJ (bt aB.out eC.out)
    have kF:=hJ (PF.new dD.out eC.out)
    clear hHeld
    refine hK.out _ _ (bG.out _ fS.out) (fun hHeld=>?_)
    clear hK K
    try simp only [PT]
    exact wpAnyH_cast (by kernel_rfl) (cI s13 A13 n13 c13 t13 B13 m13 d13 aL v78 fS kF eD kE)
   have fT:∀ (aL:Nat) (v:World),Hid (Below w22.heap.size w22 v)→Hid (BX 27 v aL #[.bool false,.slice none 0 0,.bool false,.slice none 0 0])→Hid (w22.heap.size≤aL)→F 6 (Array.setIfInBounds L0 13 true) (Act.put a0 (some 22) (.pointer (some ⟨aL,0,none⟩))) v:=by
    intro aL v aB aS dE
    subst hF ha0 hL0
    simp only [PT] at cI ⊢
    have hHeld:=bG.out _ aB.out
    refine ryy [9] ?_
    refine .cons rfl (fun K hK=>?_) .nil
    go_simp
    go_at_call 23
    refine (areaw_any v ((LFg.new bN.out aB.out) 0 (by decide)) ((LFg.new bN.out aB.out) 1 (by decide)) ((LFg.new bN.out aB.out) 3 (by decide)) (aA.out 0 (by decide)).1 (aA.out 0 (by decide)).2 (aA.out 1 (by decide)).1 (aA.out 1 (by decide)).2 (aA.out 3 (by decide)).1 (aA.out 3 (by decide)).2).mono ?_
    rw [cN.out,cO.out,cP.out]
    rintro e v79 ⟨s13,A13,n13,c13,t13,B13,m13,d13,rfl,hr13,hb⟩
    have fU:=hJ hb
    have kG:=hJ hr13
    clear hb hr13
    go_wp2_with fail
    have fV:=hJ (bt aB.out fU.out)
    have kH:=hJ (BX.new aS.out fU.out)
    clear hHeld
    refine hK.out _ _ (bG.out _ fV.out) (fun hHeld=>?_)
    clear hK K
    refine tq 10 ?_
    refine tq 11 ?_
    refine tq 12 ?_
    try simp only [PT]
    exact wpAnyH_cast (by kernel_rfl) (cI s13 A13 n13 c13 t13 B13 m13 d13 aL v79 fV kG kH dE)
   subst hF ha0 hL0
   simp only [PT] at fR fT
   refine ryy [9,13] ?_
   refine .cons rfl (fun K hK=>?_) ?_
   go_simp
   go_at_call 23
   refine (areaw_any v23 ((LFg.new bN.out bU.out) 0 (by decide)) ((LFg.new bN.out bU.out) 1 (by decide)) ((LFg.new bN.out bU.out) 3 (by decide)) (aA.out 0 (by decide)).1 (aA.out 0 (by decide)).2 (aA.out 1 (by decide)).1 (aA.out 1 (by decide)).2 (aA.out 3 (by decide)).1 (aA.out 3 (by decide)).2).mono ?_
   rw [cN.out,cO.out,cP.out]
   rintro e v80 ⟨s13,A13,n13,c13,t13,B13,m13,d13,rfl,hr13,hb⟩
   have kI:=hJ hb
   have kJ:=hJ hr13
   clear hb hr13
   go_wp2_with fail
   have fW:=hJ (bt bU.out kI.out)
   clear hHeld
   refine hK.out _ _ (bG.out _ fW.out) (fun hHeld=>?_)
   clear hK K
   refine tq 10 ?_
   refine tq 11 ?_
   refine tq 12 ?_
   try simp only [PT]
   exact wpAnyH_cast (by kernel_rfl) (fR s13 A13 n13 c13 t13 B13 m13 d13 v80 fW kJ)
   refine .cons rfl (fun K hK=>?_) .nil
   go_simp
   have fX:=hJ ((Below.refl v23.heap.size v23).alloc (Nat.le_refl _) (.cells #[.bool false,.slice none 0 0,.bool false,.slice none 0 0] 27))
   have eE:=hJ (BX.lit v23 27 #[.bool false,.slice none 0 0,.bool false,.slice none 0 0])
   obtain ⟨v81,hV⟩:=nmz (World.alloc v23 (.cells #[.bool false,.slice none 0 0,.bool false,.slice none 0 0] 27))
   obtain ⟨aL,hg⟩:=nmz (v23.heap.size)
   rw [hV] at fX eE ⊢
   rw [hg] at eE ⊢
   have kK:=hJ (show w22.heap.size≤aL by rw [←hg]; exact bU.out.size)
   clear hV hg
   have fY:=hJ (bt bU.out fX.out)
   clear hHeld
   refine hK.out _ _ (bG.out _ fY.out) (fun hHeld=>?_)
   clear hK K
   try simp only [PT]
   exact wpAnyH_cast (by kernel_rfl) (fT aL v81 fY eE kK)
  have fZ:∀ (s12:Bool) (A12:Option Addr) (n12:Nat) (c12:Nat) (t12:Bool) (B12:Option Addr) (m12:Nat) (d12:Nat) (v:World),Hid (Below v2.heap.size v2 v)→Hid (PF v s12 A12 n12 c12 t12 B12 m12 d12 p0 q0)→F 3 (Array.setIfInBounds (Array.setIfInBounds (Array.setIfInBounds (Array.setIfInBounds L0 9 true) 10 true) 11 true) 12 true) (Act.put (Act.put (Act.put (Act.put a0 (some 109) (.tuple #[.agg #[.bool s12,.slice A12 n12 c12,.bool t12,.slice B12 m12 d12],.int .i64 e0])) (some 99) (.tuple #[.agg #[.bool s12,.slice A12 n12 c12,.bool t12,.slice B12 m12 d12],.int .i64 e0])) (some 110) (.agg #[.bool s12,.slice A12 n12 c12,.bool t12,.slice B12 m12 d12])) (some 111) (.int .i64 e0)) v:=by
   intro s12 A12 n12 c12 t12 B12 m12 d12 v aB cZ
   subst hF ha0 hL0
   simp only [PT] at cF ⊢
   have hHeld:=bE.out _ aB.out
   refine ryy [13] ?_
   refine .cons rfl (fun K hK=>?_) .nil
   go_simp
   have eF:=hJ ((Below.refl v.heap.size v).alloc (Nat.le_refl _) (.cells #[.bool false,.slice none 0 0,.bool false,.slice none 0 0] 27))
   have eG:=hJ (BX.lit v 27 #[.bool false,.slice none 0 0,.bool false,.slice none 0 0])
   obtain ⟨v82,hV⟩:=nmz (World.alloc v (.cells #[.bool false,.slice none 0 0,.bool false,.slice none 0 0] 27))
   obtain ⟨aK,hg⟩:=nmz (v.heap.size)
   rw [hV] at eF eG ⊢
   rw [hg] at eG ⊢
   have kL:=hJ (show v2.heap.size≤aK by rw [←hg]; exact aB.out.size)
   clear hV hg
   have gA:=hJ (bt aB.out eF.out)
   have kM:=hJ (PF.new cZ.out eF.out)
   clear hHeld
   refine hK.out _ _ (bE.out _ gA.out) (fun hHeld=>?_)
   clear hK K
   try simp only [PT]
   exact wpAnyH_cast (by kernel_rfl) (cF s12 A12 n12 c12 t12 B12 m12 d12 aK v82 gA kM eG kL)
  have gB:∀ (aK:Nat) (v:World),Hid (Below v2.heap.size v2 v)→Hid (BX 27 v aK #[.bool false,.slice none 0 0,.bool false,.slice none 0 0])→Hid (v2.heap.size≤aK)→F 6 (Array.setIfInBounds L0 13 true) (Act.put a0 (some 18) (.pointer (some ⟨aK,0,none⟩))) v:=by
   intro aK v aB aR dA
   subst hF ha0 hL0
   simp only [PT] at cF ⊢
   have hHeld:=bE.out _ aB.out
   refine ryy [9] ?_
   refine .cons rfl (fun K hK=>?_) .nil
   go_simp
   go_at_call 24
   refine (stepsw_any v ((LFg.new bM.out aB.out) 0 (by decide)) ((LFg.new bM.out aB.out) 1 (by decide)) ((LFg.new bM.out aB.out) 2 (by decide)) (aA.out 0 (by decide)).1 (aA.out 0 (by decide)).2 (aA.out 1 (by decide)).1 (aA.out 1 (by decide)).2 (aA.out 2 (by decide)).1 (aA.out 2 (by decide)).2).mono ?_
   rw [bQ.out,bZ.out,bR.out]
   rintro e v83 ⟨s12,A12,n12,c12,t12,B12,m12,d12,rfl,hr12,hb⟩
   have gC:=hJ hb
   have kN:=hJ hr12
   clear hb hr12
   go_wp2_with fail
   have gD:=hJ (bt aB.out gC.out)
   have kO:=hJ (BX.new aR.out gC.out)
   clear hHeld
   refine hK.out _ _ (bE.out _ gD.out) (fun hHeld=>?_)
   clear hK K
   refine tq 10 ?_
   refine tq 11 ?_
   refine tq 12 ?_
   try simp only [PT]
   exact wpAnyH_cast (by kernel_rfl) (cF s12 A12 n12 c12 t12 B12 m12 d12 aK v83 gD kN kO dA)
  subst hF ha0 hL0
  simp only [PT] at fZ gB
  refine ryy [9,13] ?_
  refine .cons rfl (fun K hK=>?_) ?_
  go_simp
  go_at_call 24
  refine (stepsw_any v4 ((LFg.new bM.out bT.out) 0 (by decide)) ((LFg.new bM.out bT.out) 1 (by decide)) ((LFg.new bM.out bT.out) 2 (by decide)) (aA.out 0 (by decide)).1 (aA.out 0 (by decide)).2 (aA.out 1 (by decide)).1 (aA.out 1 (by decide)).2 (aA.out 2 (by decide)).1 (aA.out 2 (by decide)).2).mono ?_
  rw [bQ.out,bZ.out,bR.out]
  rintro e v84 ⟨s12,A12,n12,c12,t12,B12,m12,d12,rfl,hr12,hb⟩
  have kP:=hJ hb
  have kQ:=hJ hr12
  clear hb hr12
  go_wp2_with fail
  have gE:=hJ (bt bT.out kP.out)
  clear hHeld
  refine hK.out _ _ (bE.out _ gE.out) (fun hHeld=>?_)
  clear hK K
  refine tq 10 ?_
  refine tq 11 ?_
  refine tq 12 ?_
  try simp only [PT]
  exact wpAnyH_cast (by kernel_rfl) (fZ s12 A12 n12 c12 t12 B12 m12 d12 v84 gE kQ)
  refine .cons rfl (fun K hK=>?_) .nil
  go_simp
  have gF:=hJ ((Below.refl v4.heap.size v4).alloc (Nat.le_refl _) (.cells #[.bool false,.slice none 0 0,.bool false,.slice none 0 0] 27))
  have eH:=hJ (BX.lit v4 27 #[.bool false,.slice none 0 0,.bool false,.slice none 0 0])
  obtain ⟨v85,hV⟩:=nmz (World.alloc v4 (.cells #[.bool false,.slice none 0 0,.bool false,.slice none 0 0] 27))
  obtain ⟨aK,hg⟩:=nmz (v4.heap.size)
  rw [hV] at gF eH ⊢
  rw [hg] at eH ⊢
  have kR:=hJ (show v2.heap.size≤aK by rw [←hg]; exact bT.out.size)
  clear hV hg
  have gG:=hJ (bt bT.out gF.out)
  clear hHeld
  refine hK.out _ _ (bE.out _ gG.out) (fun hHeld=>?_)
  clear hK K
  try simp only [PT]
  exact wpAnyH_cast (by kernel_rfl) (gB aK v85 gG eH kR)
 have gH:∀ (s11:Bool) (A11:Option Addr) (n11:Nat) (c11:Nat) (t11:Bool) (B11:Option Addr) (m11:Nat) (d11:Nat) (v:World),Hid (Below w.heap.size w v)→Hid (PF v s11 A11 n11 c11 t11 B11 m11 d11 p0 q0)→F 3 (Array.setIfInBounds (Array.setIfInBounds (Array.setIfInBounds (Array.setIfInBounds L0 9 true) 10 true) 11 true) 12 true) (Act.put (Act.put (Act.put (Act.put a0 (some 96) (.tuple #[.agg #[.bool s11,.slice A11 n11 c11,.bool t11,.slice B11 m11 d11],.int .i64 e0])) (some 86) (.tuple #[.agg #[.bool s11,.slice A11 n11 c11,.bool t11,.slice B11 m11 d11],.int .i64 e0])) (some 97) (.agg #[.bool s11,.slice A11 n11 c11,.bool t11,.slice B11 m11 d11])) (some 98) (.int .i64 e0)) v:=by
  intro s11 A11 n11 c11 t11 B11 m11 d11 v aB cW
  subst hF ha0 hL0
  simp only [PT] at cE ⊢
  have hHeld:=bD.out _ aB.out
  refine ryy [13] ?_
  refine .cons rfl (fun K hK=>?_) .nil
  go_simp
  have eI:=hJ ((Below.refl v.heap.size v).alloc (Nat.le_refl _) (.cells #[.bool false,.slice none 0 0,.bool false,.slice none 0 0] 27))
  have eJ:=hJ (BX.lit v 27 #[.bool false,.slice none 0 0,.bool false,.slice none 0 0])
  obtain ⟨v86,hV⟩:=nmz (World.alloc v (.cells #[.bool false,.slice none 0 0,.bool false,.slice none 0 0] 27))
  obtain ⟨aJ,hg⟩:=nmz (v.heap.size)
  rw [hV] at eI eJ ⊢
  rw [hg] at eJ ⊢
  have kS:=hJ (show w.heap.size≤aJ by rw [←hg]; exact aB.out.size)
  clear hV hg
  have gI:=hJ (bt aB.out eI.out)
  have kT:=hJ (PF.new cW.out eI.out)
  clear hHeld
  refine hK.out _ _ (bD.out _ gI.out) (fun hHeld=>?_)
  clear hK K
  try simp only [PT]
  exact wpAnyH_cast (by kernel_rfl) (cE s11 A11 n11 c11 t11 B11 m11 d11 aJ v86 gI kT eJ kS)
 have gJ:∀ (aJ:Nat) (v:World),Hid (Below w.heap.size w v)→Hid (BX 27 v aJ #[.bool false,.slice none 0 0,.bool false,.slice none 0 0])→Hid (w.heap.size≤aJ)→F 6 (Array.setIfInBounds L0 13 true) (Act.put a0 (some 16) (.pointer (some ⟨aJ,0,none⟩))) v:=by
  intro aJ v aB aO cX
  subst hF ha0 hL0
  simp only [PT] at cE ⊢
  have hHeld:=bD.out _ aB.out
  refine ryy [9] ?_
  refine .cons rfl (fun K hK=>?_) .nil
  go_simp
  go_at_call 23
  refine (areaw_any v ((LFg.new bK.out aB.out) 0 (by decide)) ((LFg.new bK.out aB.out) 1 (by decide)) ((LFg.new bK.out aB.out) 2 (by decide)) (aA.out 0 (by decide)).1 (aA.out 0 (by decide)).2 (aA.out 1 (by decide)).1 (aA.out 1 (by decide)).2 (aA.out 2 (by decide)).1 (aA.out 2 (by decide)).2).mono ?_
  rw [bQ.out,bZ.out,bR.out]
  rintro e v87 ⟨s11,A11,n11,c11,t11,B11,m11,d11,rfl,hr11,hb⟩
  have gK:=hJ hb
  have kU:=hJ hr11
  clear hb hr11
  go_wp2_with fail
  have gL:=hJ (bt aB.out gK.out)
  have kV:=hJ (BX.new aO.out gK.out)
  clear hHeld
  refine hK.out _ _ (bD.out _ gL.out) (fun hHeld=>?_)
  clear hK K
  refine tq 10 ?_
  refine tq 11 ?_
  refine tq 12 ?_
  try simp only [PT]
  exact wpAnyH_cast (by kernel_rfl) (cE s11 A11 n11 c11 t11 B11 m11 d11 aJ v87 gL kU kV cX)
 subst hF ha0 hL0
 simp only [PT] at gH gJ
 refine ryy [9,13] ?_
 refine .cons rfl (fun K hK=>?_) ?_
 go_simp
 go_at_call 23
 refine (areaw_any v1 ((LFg.new bK.out bS.out) 0 (by decide)) ((LFg.new bK.out bS.out) 1 (by decide)) ((LFg.new bK.out bS.out) 2 (by decide)) (aA.out 0 (by decide)).1 (aA.out 0 (by decide)).2 (aA.out 1 (by decide)).1 (aA.out 1 (by decide)).2 (aA.out 2 (by decide)).1 (aA.out 2 (by decide)).2).mono ?_
 rw [bQ.out,bZ.out,bR.out]
 rintro e v88 ⟨s11,A11,n11,c11,t11,B11,m11,d11,rfl,hr11,hb⟩
 have kW:=hJ hb
 have kX:=hJ hr11
 clear hb hr11
 go_wp2_with fail
 have gM:=hJ (bt bS.out kW.out)
 clear hHeld
 refine hK.out _ _ (bD.out _ gM.out) (fun hHeld=>?_)
 clear hK K
 refine tq 10 ?_
 refine tq 11 ?_
 refine tq 12 ?_
 try simp only [PT]
 exact wpAnyH_cast (by kernel_rfl) (gH s11 A11 n11 c11 t11 B11 m11 d11 v88 gM kX)
 refine .cons rfl (fun K hK=>?_) .nil
 go_simp
 have gN:=hJ ((Below.refl v1.heap.size v1).alloc (Nat.le_refl _) (.cells #[.bool false,.slice none 0 0,.bool false,.slice none 0 0] 27))
 have eK:=hJ (BX.lit v1 27 #[.bool false,.slice none 0 0,.bool false,.slice none 0 0])
 obtain ⟨v89,hV⟩:=nmz (World.alloc v1 (.cells #[.bool false,.slice none 0 0,.bool false,.slice none 0 0] 27))
 obtain ⟨aJ,hg⟩:=nmz (v1.heap.size)
 rw [hV] at gN eK ⊢
 rw [hg] at eK ⊢
 have kY:=hJ (show w.heap.size≤aJ by rw [←hg]; exact bS.out.size)
 clear hV hg
 have gO:=hJ (bt bS.out gN.out)
 clear hHeld
 refine hK.out _ _ (bD.out _ gO.out) (fun hHeld=>?_)
 clear hK K
 try simp only [PT]
 exact wpAnyH_cast (by kernel_rfl) (gJ aJ v89 gO eK kY)
end Go.Proofs.YtbgfmegepekapaaGreat
namespace Go.Proofs.YtbgfmegepekapaaGreat
set_option maxRecDepth 100000
set_option maxHeartbeats 12800000
/-- A row of points with one value changed. -/
def upU (U:Nat→Nat→Value) (i o:Nat) (a b c d:Value) (j k:Nat):Value:=if j=i∧k=o then a else if j=i∧k=o+1 then b else if j=i∧k=o+2 then c else if j=i∧k=o+3 then d else U j k
/-- One number of four changed. -/
def upN (X:Nat→Int) (i:Nat) (x:Int) (j:Nat):Int:=if j=i then x else X j
theorem rowQ_setX (U:Nat→Nat→Value) {i:Nat} (hi:i < 4) (a b c d:Value):setL (rowQ U) (i*8) [a,b,c,d]=rowQ (upU U i 0 a b c d):=by
 have hcs:i=0∨i=1∨i=2∨i=3:=by omega
 rcases hcs with rfl | rfl | rfl | rfl <;> rfl
theorem rowQ_setY (U:Nat→Nat→Value) {i:Nat} (hi:i < 4) (a b c d:Value):setL (rowQ U) (i*8+4) [a,b,c,d]=rowQ (upU U i 4 a b c d):=by
 have hcs:i=0∨i=1∨i=2∨i=3:=by omega
 rcases hcs with rfl | rfl | rfl | rfl <;> rfl
theorem lfg_setX {w:World} {PX QX PY QY:Nat→Int} {U:Nat→Nat→Value} (h:LFg w PX QX PY QY U) (i:Nat) {a b c d:Value} {p q:Int} (hp:PFv w a b c d p q):LFg w (upN PX i p) (upN QX i q) PY QY (upU U i 0 a b c d):=by
 intro j hj
 by_cases e:j=i
 ·subst e
  have:=(h j hj).2
  unfold PTg upN upU
  simp
  exact ⟨hp,this⟩
 ·have:=h j hj
  unfold PTg upN upU at *
  simp [e]
  exact this
theorem lfg_setY {w:World} {PX QX PY QY:Nat→Int} {U:Nat→Nat→Value} (h:LFg w PX QX PY QY U) (i:Nat) {a b c d:Value} {p q:Int} (hp:PFv w a b c d p q):LFg w PX QX (upN PY i p) (upN QY i q) (upU U i 4 a b c d):=by
 intro j hj
 by_cases e:j=i
 ·subst e
  have:=(h j hj).1
  unfold PTg upN upU
  simp
  exact ⟨this,hp⟩
 ·have:=h j hj
  unfold PTg upN upU at *
  simp [e]
  exact this
theorem fr_setX {PX QX PY QY:Nat→Int} (h:∀ j,j < 4→Fr (PX j) (QX j)∧Fr (PY j) (QY j)) (i:Nat) {p q:Int} (hp:Fr p q):∀ j,j < 4→Fr (upN PX i p j) (upN QX i q j)∧Fr (PY j) (QY j):=by
 intro j hj
 unfold upN
 by_cases e:j=i
 ·rw [if_pos e,if_pos e]; exact ⟨hp,(h j hj).2⟩
 ·rw [if_neg e,if_neg e]; exact h j hj
theorem fr_setY {PX QX PY QY:Nat→Int} (h:∀ j,j < 4→Fr (PX j) (QX j)∧Fr (PY j) (QY j)) (i:Nat) {p q:Int} (hp:Fr p q):∀ j,j < 4→Fr (PX j) (QX j)∧Fr (upN PY i p j) (upN QY i q j):=by
 intro j hj
 unfold upN
 by_cases e:j=i
 ·rw [if_pos e,if_pos e]; exact ⟨(h j hj).1,hp⟩
 ·rw [if_neg e,if_neg e]; exact h j hj
theorem lf_lfg {w:World} {xs ys ds:Nat→Int} {U:Nat→Nat→Value} (h:LF w xs ys ds U):LFg w (fun j=>mkP (xs j) (ds j)) (fun j=>mkQ (xs j) (ds j)) (fun j=>mkP (ys j) (ds j)) (fun j=>mkQ (ys j) (ds j)) U:=h
theorem lf_fr {xs ys ds:Nat→Int} (h:∀ j,j < 4→Pq (xs j) (ys j) (ds j)):∀ j,j < 4→Fr (mkP (xs j) (ds j)) (mkQ (xs j) (ds j))∧Fr (mkP (ys j) (ds j)) (mkQ (ys j) (ds j)):=fun j hj=>⟨vl_fr (pz_vl (pq_pz (h j hj))).1 (by decide),vl_fr (pz_vl (pq_pz (h j hj))).2 (by decide)⟩
/-- The squaring loop's number. -/
def sq3 (i:Nat):Int:=3 ^ (2 ^ i)
theorem sq3_succ (i:Nat):sq3 i*sq3 i=sq3 (i+1):=by
 unfold sq3
 rw [←Int.pow_add,Nat.pow_succ,Nat.mul_two]
theorem sq3_abs:∀ i:Nat,(sq3 i).natAbs < B2 (2 ^ (i+1))∧0 < sq3 i
 | 0=>⟨by unfold sq3 B2; decide,by decide⟩
 | i+1=>by
  obtain ⟨h1,h2⟩:=sq3_abs i
  rw [←sq3_succ]
  refine ⟨?_,Int.mul_pos h2 h2⟩
  have h:=b2_m h1 h1
  rw [show 2 ^ (i+1+1)=2 ^ (i+1)+2 ^ (i+1) by rw [Nat.pow_succ 2 (i+1)]; omega]
  exact h
theorem sq3_lim {i:Nat} (hi:i≤13):(sq3 i).natAbs < lim:=b2_lim (sq3_abs i).1 (Nat.le_trans (Nat.pow_le_pow_right (by decide) (show i+1≤14 by omega)) (by decide))
end Go.Proofs.YtbgfmegepekapaaGreat
