/- The end of the walk of the law ExactTurns. -/
import Derived.Test.YtdamadkhbeonaaaAL
import Derived.Test.YtdamadkhbeonaaaEC
import Derived.Test.YtdamadkhbeonaaaEL
import Derived.Laws.BytesArg
namespace Go.Proofs.Ytdamadkhbeonaaa
open Go.RowKit
attribute [local go_sem ↓] Go.wp_at_zero Go.wp_at_succ
set_option linter.unusedVariables false
set_option linter.unusedSimpArgs false
theorem cm_neg2 (a b : Int) : IntKind.i64.wrap (-cmpI a b) = cmpI b a := by
 rcases Int.lt_trichotomy a b with h | h | h
 ·rw [cm_less h, cm_more h]; decide
 ·rw [cm_same h, cm_same h.symm]; decide
 ·rw [cm_more h, cm_less h]; decide
theorem cm_le {a b : Int} : cmpI a b ≤ 0 ↔ a ≤ b := by
 rcases Int.lt_trichotomy a b with h | h | h
 ·rw [cm_less h]; omega
 ·rw [cm_same h]; omega
 ·rw [cm_more h]; omega
theorem cm_tr (a b c : Int) : cmpI a b ≤ 0 → cmpI b c ≤ 0 → cmpI a c ≤ 0 := by rw [cm_le, cm_le, cm_le]; omega
theorem se_all (a b c : Int) : ¬ cmpI a b = 0 → ¬ cmpI b c = 0 → ¬ cmpI a c = 0 → seV b a c = !seV a b c ∧ seV b c a = seV a b c := by
 rw [cm_zero, cm_zero, cm_zero]
 intro h1 h2 h3
 by_cases h : seV a b c = true
 ·have h' := se_iff.1 h
  rw [h]
  exact ⟨se_f (by omega), se_t (by omega)⟩
 ·have h' := h
  rw [se_iff] at h'
  have h0 : seV a b c = false := by simpa using h
  rw [h0]
  exact ⟨se_t (by omega), se_f (by omega)⟩
theorem tu_e1 {a b p q : Int} (h : Di a b) : tuE a b p q = diE p q := by
 unfold tuE fsE fsE fsE diP
 rw [di_e h, if_pos rfl]
 split
 ·rename_i h; exact h.symm
 ·rfl
theorem tu_e2 (p q : Int) : tuE p q 0 0 = if diE p q = 0 then 1 else diE p q := by
 by_cases h : diE p q = 0
 ·rw [if_pos h]
  show fsE diP [(p, q), (0, 0)] = _
  unfold fsE
  exact (if_pos h).trans (by decide)
 ·rw [if_neg h]
  show fsE diP [(p, q), (0, 0)] = _
  unfold fsE
  exact if_neg h
theorem se_e {a b c d p q : Int} (h : Di a b) (h' : Di c d) : seE a b c d p q = diE p q := by
 unfold seE fsE fsE fsE fsE diP
 rw [di_e h, if_pos rfl, di_e h', if_pos rfl]
 split
 ·rename_i h; exact h.symm
 ·rfl
theorem te_ok {a b c d : Int} (h : Di a b) (h' : Di c d) : tuE a b c d = 0 := by rw [tu_e1 h, di_e h']
theorem tv_ok {a b c d : Int} (h : Di a b) (h' : Di c d) : tuV a b c d = cmpI (rk a b) (rk c d) := by rw [tuV, if_pos (te_ok h h'), (rk_ok h h').1]
theorem se_ok {a b c d e f : Int} (h : Di a b) (h' : Di c d) (h'' : Di e f) : seE a b c d e f = 0 := by rw [se_e h h', di_e h'']
theorem sb_ok {a b c d e f : Int} (h : Di a b) (h' : Di c d) (h'' : Di e f) : seB a b c d e f = seV (rk a b) (rk c d) (rk e f) := by rw [seB, if_pos (se_ok h h' h''), sc_ok h h' h'']
theorem ro_ok {a b c d : Int} (h : Di a b) (h' : Di c d) : ordV a b c d = cmpI (rk a b) (rk c d) := (rk_ok h h').2
theorem di_i6 {a b : Int} (h : Di a b) : I6 a ∧ I6 b := ⟨nk_i6 h.1 (by decide), nk_i6 h.2.1 (by decide)⟩
theorem stop_here {p : Prop} (h : ∀ q : Prop, Hid (q = p) → q) : p := h p (hJ rfl)
/-- The code behind n statements. -/
def sq : Nat → Code → Code
 | 0, c => c
 | n + 1, .seq _ b => sq n b
 | _ + 1, c => c
def sn : Code → Code
 | .seq _ b => b
 | c => c
def lp : Code → Code
 | .block _ c => c
 | .loop c => c
 | c => c
def fs : Code → Code
 | .seq a _ => a
 | c => c
noncomputable def turB : Code := (Try.f4.body).getD .skip
noncomputable def turX : Code := sq 9 (lp (fs (sn (lp (lp (sn (fs (sq 5 turB))))))))
set_option maxRecDepth 100000 in
set_option maxHeartbeats 12800000 in
theorem turns_t4 {u0 u1 u2 u3 u4 u5 u6 u8 u9 u10 u11 u12 u13 u14 u15 u16 u17 u18 u24 u25 u26 u28 u30 u31 u32 u33 u34 u35 u36 u37 u38 u39 u40 u41 u42 u43 u44 u45 u46 u47 u48 u49 u50 u51 u52 u53 u54 u55 u56 u57 u58 u59 u60 u61 u62 u63 u64 u65 u66 u67 u68 u69 u70 u71 u72 u73 u74 u75 u76 u77 u78 u79 u80 u81 u82 u83 u84 u85 u86 u87 u88 u89 u90 u91 u92 u93 u94 u95 u96 u97 u98 u99 u100 u101 u102 u103 u104 u105 u106 u107 u108 u109 u110 u111 u112 u113 u114 u115 u116 u117 u118 u119 u120 u121 u122 u123 u124 u125 u126 u127 u128 u129 u130 u131 u132 u133 u134 u135 u136 u137 u138 u139 u140 u141 u142 u143 u144 u145 u146 u147 u148 u149 u150 u151 u152 u153 u154 u155 u156 u157 u158 u159 u160 u161 u162 u163 u164 u165 u166 u167 u168 u169 u170 u171 u172 u173 u174 u175 u176 u177 u178 u179 u180 u181 u182 u183 u184 u185 u186 u187 u188 u189 u190 u191 u192 u193 u194 u195 u196 u197 u198 u199 u200 u201 u202 u203 u204 u205 u206 u207 u208 u209 u210 u211 u212 u213 u214 u215 u216 u217 u218 u219 u220 u221 u222 u223 u224 u225 u226 u227 u228 u229 u230 u231 u232 u233 u234 u235 u236 u237 u238 u239 u240 u241 u242 u243 u244 u245 u246 u247 u248 u249 u250 u251 u252 u253 u254 u255 u256 u257 u258 u259 u260 u261 u262 u263 u264 u265 u266 u267 u268 u269 : Value} (xa ya xb yb xc yc ra rb rc kx kz kw : Int) (In Ot Nx : Bool) (gx cpx ga gb gc i : Nat) (w : World)
  (HPVa : Hid (Di xa ya)) (HPVb : Hid (Di xb yb)) (HPVc : Hid (Di xc yc)) (HRa : Hid (rk xa ya = ra)) (HRb : Hid (rk xb yb = rb)) (HRc : Hid (rk xc yc = rc))
  (HIN : Hid (seV ra rb rc = In)) (HOT : Hid (seV rb ra rc = Ot)) (HNX : Hid (seV rb rc ra = Nx)) (HAL : Hid (¬ kx = 0 → ¬ kz = 0 → ¬ kw = 0 → Ot = !In ∧ Nx = In))
  (HQa : Hid (BX 25 w ga #[.int .i64 xa, .int .i64 ya])) (HQb : Hid (BX 25 w gb #[.int .i64 xb, .int .i64 yb])) (HQc : Hid (BX 25 w gc #[.int .i64 xc, .int .i64 yc]))
  (K K2 : Act → World → Prop) (Q : Exit → Act → World → Prop)
  (hend : Hid (∀ {v23 v27 v29 v33 v34 v35 v36 v37 v38 v39 v40 v206 v207 v208 v209 v210 v211 v212 v213 v214 v215 v216 v217 v218 v219 v220 v221 v222 v223 v224 v225 v226 v227 v228 v229 v230 v231 v232 v233 v234 v235 v236 v237 v238 v239 v240 v241 v242 v243 v244 v245 v246 v247 v248 v249 v250 v251 v252 v253 v254 v255 v256 v257 v258 v259 v260 v261 v262 v263 v264 v265 v266 v267 v268 : Value} (w' : World), Below w.heap.size w w' → K2 ⟨(u0 :: u1 :: u2 :: u3 :: u4 :: u5 :: u6 :: (.slice (some ⟨gx, 0, none⟩) 4 cpx : Value) :: u8 :: u9 :: u10 :: u11 :: u12 :: u13 :: u14 :: u15 :: u16 :: u17 :: u18 :: (.int .i64 (i : Int) : Value) :: (.pointer (some ⟨ga, 0, none⟩) : Value) :: (.pointer (some ⟨gb, 0, none⟩) : Value) :: (.pointer (some ⟨gc, 0, none⟩) : Value) :: v23 :: u24 :: u25 :: u26 :: v27 :: u28 :: v29 :: u30 :: u31 :: u32 :: v33 :: v34 :: v35 :: v36 :: v37 :: v38 :: v39 :: v40 :: u41 :: u42 :: u43 :: u44 :: u45 :: u46 :: u47 :: u48 :: u49 :: u50 :: u51 :: u52 :: u53 :: u54 :: u55 :: u56 :: u57 :: u58 :: u59 :: u60 :: u61 :: u62 :: u63 :: u64 :: u65 :: u66 :: u67 :: u68 :: u69 :: u70 :: u71 :: u72 :: u73 :: u74 :: u75 :: u76 :: u77 :: u78 :: u79 :: u80 :: u81 :: u82 :: u83 :: u84 :: u85 :: u86 :: u87 :: u88 :: u89 :: u90 :: u91 :: u92 :: u93 :: u94 :: u95 :: u96 :: u97 :: u98 :: u99 :: u100 :: u101 :: u102 :: u103 :: u104 :: u105 :: u106 :: u107 :: u108 :: u109 :: u110 :: u111 :: u112 :: u113 :: u114 :: u115 :: u116 :: u117 :: u118 :: u119 :: u120 :: u121 :: u122 :: u123 :: u124 :: u125 :: u126 :: u127 :: u128 :: u129 :: u130 :: u131 :: u132 :: u133 :: u134 :: u135 :: u136 :: u137 :: u138 :: u139 :: u140 :: u141 :: u142 :: u143 :: u144 :: u145 :: u146 :: u147 :: u148 :: u149 :: u150 :: u151 :: u152 :: u153 :: u154 :: u155 :: u156 :: u157 :: u158 :: u159 :: u160 :: u161 :: u162 :: u163 :: u164 :: u165 :: u166 :: u167 :: u168 :: u169 :: u170 :: u171 :: u172 :: u173 :: u174 :: u175 :: u176 :: u177 :: u178 :: u179 :: u180 :: u181 :: u182 :: u183 :: u184 :: u185 :: u186 :: u187 :: u188 :: u189 :: u190 :: u191 :: u192 :: u193 :: u194 :: u195 :: u196 :: u197 :: u198 :: u199 :: u200 :: u201 :: u202 :: u203 :: u204 :: u205 :: v206 :: v207 :: v208 :: v209 :: v210 :: v211 :: v212 :: v213 :: v214 :: v215 :: v216 :: v217 :: v218 :: v219 :: v220 :: v221 :: v222 :: v223 :: v224 :: v225 :: v226 :: v227 :: v228 :: v229 :: v230 :: v231 :: v232 :: v233 :: v234 :: v235 :: v236 :: v237 :: v238 :: v239 :: v240 :: v241 :: v242 :: v243 :: v244 :: v245 :: v246 :: v247 :: v248 :: v249 :: v250 :: v251 :: v252 :: v253 :: v254 :: v255 :: v256 :: v257 :: v258 :: v259 :: v260 :: v261 :: v262 :: v263 :: v264 :: v265 :: v266 :: v267 :: v268 :: u269 :: []).toArray, []⟩ w'))
  (hK : ∀ a w, Code.wp Try.prog (sn turX) (Exit.inBlock 5 (Exit.then K2 Q)) a w → K a w) :
  Code.wp Try.prog (fs turX) (Exit.then K (Exit.inBlock 5 (Exit.then K2 Q))) ⟨(u0 :: u1 :: u2 :: u3 :: u4 :: u5 :: u6 :: (.slice (some ⟨gx, 0, none⟩) 4 cpx : Value) :: u8 :: u9 :: u10 :: u11 :: u12 :: u13 :: u14 :: u15 :: u16 :: u17 :: u18 :: (.int .i64 (i : Int) : Value) :: (.pointer (some ⟨ga, 0, none⟩) : Value) :: (.pointer (some ⟨gb, 0, none⟩) : Value) :: (.pointer (some ⟨gc, 0, none⟩) : Value) :: (.int .i64 kx : Value) :: u24 :: u25 :: u26 :: (.int .i64 kz : Value) :: u28 :: (.int .i64 kw : Value) :: u30 :: u31 :: u32 :: u33 :: u34 :: u35 :: u36 :: u37 :: u38 :: u39 :: u40 :: u41 :: u42 :: u43 :: u44 :: u45 :: u46 :: u47 :: u48 :: u49 :: u50 :: u51 :: u52 :: u53 :: u54 :: u55 :: u56 :: u57 :: u58 :: u59 :: u60 :: u61 :: u62 :: u63 :: u64 :: u65 :: u66 :: u67 :: u68 :: u69 :: u70 :: u71 :: u72 :: u73 :: u74 :: u75 :: u76 :: u77 :: u78 :: u79 :: u80 :: u81 :: u82 :: u83 :: u84 :: u85 :: u86 :: u87 :: u88 :: u89 :: u90 :: u91 :: u92 :: u93 :: u94 :: u95 :: u96 :: u97 :: u98 :: u99 :: u100 :: u101 :: u102 :: u103 :: u104 :: u105 :: u106 :: u107 :: u108 :: u109 :: u110 :: u111 :: u112 :: u113 :: u114 :: u115 :: u116 :: u117 :: u118 :: u119 :: u120 :: u121 :: u122 :: u123 :: u124 :: u125 :: u126 :: u127 :: u128 :: u129 :: u130 :: u131 :: u132 :: u133 :: u134 :: u135 :: u136 :: u137 :: u138 :: u139 :: u140 :: u141 :: u142 :: u143 :: u144 :: u145 :: u146 :: u147 :: u148 :: u149 :: u150 :: u151 :: u152 :: u153 :: u154 :: u155 :: u156 :: u157 :: u158 :: u159 :: u160 :: u161 :: u162 :: u163 :: u164 :: u165 :: u166 :: u167 :: u168 :: u169 :: u170 :: u171 :: u172 :: u173 :: u174 :: u175 :: u176 :: u177 :: u178 :: u179 :: u180 :: u181 :: u182 :: u183 :: u184 :: u185 :: u186 :: u187 :: u188 :: u189 :: u190 :: u191 :: u192 :: u193 :: u194 :: u195 :: u196 :: u197 :: u198 :: u199 :: u200 :: u201 :: u202 :: u203 :: u204 :: u205 :: u206 :: u207 :: u208 :: u209 :: u210 :: u211 :: u212 :: u213 :: u214 :: u215 :: u216 :: u217 :: u218 :: u219 :: u220 :: u221 :: u222 :: u223 :: u224 :: u225 :: u226 :: u227 :: u228 :: u229 :: u230 :: u231 :: u232 :: u233 :: u234 :: u235 :: u236 :: u237 :: u238 :: u239 :: u240 :: u241 :: u242 :: u243 :: u244 :: u245 :: u246 :: u247 :: u248 :: u249 :: u250 :: u251 :: u252 :: u253 :: u254 :: u255 :: u256 :: u257 :: u258 :: u259 :: u260 :: u261 :: u262 :: u263 :: u264 :: u265 :: u266 :: u267 :: u268 :: u269 :: []).toArray, []⟩ w := by
 conv => arg 2; whnf
 conv at hK => intro a w; arg 1; arg 2; whnf
 obtain ⟨cl1, cl2⟩ := HQa.out.c2 0 1 rfl rfl
 obtain ⟨cl3, cl4⟩ := HQb.out.c2 0 1 rfl rfl
 obtain ⟨cl5, cl6⟩ := HQc.out.c2 0 1 rfl rfl
 go_wp2_with fail
 clear cl1 cl2 cl3 cl4 cl5 cl6
 refine (sector_any xa ya xb yb xc yc w).mono ?_
 rw [sb_ok HPVa.out HPVb.out HPVc.out, HRa.out, HRb.out, HRc.out, HIN.out, se_ok HPVa.out HPVb.out HPVc.out]
 rintro e w7 ⟨rfl, hb⟩
 have HB7 := hJ hb
 clear hb
 have HQaw1 := hJ (BX.new HQa.out HB7.out)
 obtain ⟨cl8, cl9⟩ := HQaw1.out.c2 0 1 rfl rfl
 have HQbw1 := hJ (BX.new HQb.out HB7.out)
 obtain ⟨cl10, cl11⟩ := HQbw1.out.c2 0 1 rfl rfl
 have HQcw1 := hJ (BX.new HQc.out HB7.out)
 obtain ⟨cl12, cl13⟩ := HQcw1.out.c2 0 1 rfl rfl
 go_wp2_with fail
 clear cl8 cl9 cl10 cl11 cl12 cl13
 refine (rsector_any xa ya xb yb xc yc w7 HPVa.out HPVb.out HPVc.out).mono ?_
 rw [rs_ok HPVa.out HPVb.out HPVc.out, HRa.out, HRb.out, HRc.out, HIN.out]
 rintro e w14 ⟨rfl, hb⟩
 have HB14 := hJ hb
 clear hb
 have HQbw2 := hJ (BX.new HQbw1.out HB14.out)
 obtain ⟨cl15, cl16⟩ := HQbw2.out.c2 0 1 rfl rfl
 have HQaw2 := hJ (BX.new HQaw1.out HB14.out)
 obtain ⟨cl17, cl18⟩ := HQaw2.out.c2 0 1 rfl rfl
 have HQcw2 := hJ (BX.new HQcw1.out HB14.out)
 obtain ⟨cl19, cl20⟩ := HQcw2.out.c2 0 1 rfl rfl
 go_wp2_with fail
 clear cl15 cl16 cl17 cl18 cl19 cl20
 refine (sector_any xb yb xa ya xc yc w14).mono ?_
 rw [sb_ok HPVb.out HPVa.out HPVc.out, HRb.out, HRa.out, HRc.out, HOT.out, se_ok HPVb.out HPVa.out HPVc.out]
 rintro e w21 ⟨rfl, hb⟩
 have HB21 := hJ hb
 clear hb
 have HQbw3 := hJ (BX.new HQbw2.out HB21.out)
 obtain ⟨cl22, cl23⟩ := HQbw3.out.c2 0 1 rfl rfl
 have HQcw3 := hJ (BX.new HQcw2.out HB21.out)
 obtain ⟨cl24, cl25⟩ := HQcw3.out.c2 0 1 rfl rfl
 have HQaw3 := hJ (BX.new HQaw2.out HB21.out)
 obtain ⟨cl26, cl27⟩ := HQaw3.out.c2 0 1 rfl rfl
 go_wp2_with fail
 clear cl22 cl23 cl24 cl25 cl26 cl27
 refine (sector_any xb yb xc yc xa ya w21).mono ?_
 rw [sb_ok HPVb.out HPVc.out HPVa.out, HRb.out, HRc.out, HRa.out, HNX.out, se_ok HPVb.out HPVc.out HPVa.out]
 rintro e w28 ⟨rfl, hb⟩
 have HB28 := hJ hb
 clear hb
 rcases (show kx = 0 ∨ (¬ kx = 0 ∧ kz = 0) ∨ (¬ kx = 0 ∧ ¬ kz = 0 ∧ kw = 0) ∨ (¬ kx = 0 ∧ ¬ kz = 0 ∧ ¬ kw = 0 ∧ In = true) ∨ (¬ kx = 0 ∧ ¬ kz = 0 ∧ ¬ kw = 0 ∧ In = false) by cases In <;> simp <;> omega) with hkx | ⟨hkx, hkz⟩ | ⟨hkx, hkz, hkw⟩ | ⟨hkx, hkz, hkw, hin⟩ | ⟨hkx, hkz, hkw, hin⟩
 ·have ekx : (kx == 0) = true := by simp [hkx]
  clear hkx
  have HC0_4 := hJ (bt (bt (bt HB7.out HB14.out) HB21.out) HB28.out)
  go_wp2_with fail
  all_goals (first | (exfalso; have e1 : kx = 0 := (by simpa using ekx); contradiction) | skip)
  all_goals
   exact hend.out _ HC0_4.out
 ·have ekz : (kz == 0) = true := by simp [hkz]
  clear hkz
  have HC0_4 := hJ (bt (bt (bt HB7.out HB14.out) HB21.out) HB28.out)
  go_wp2_with fail
  all_goals (first | (exfalso; have e1 : kz = 0 := (by simpa using ekz); contradiction) | skip)
  all_goals
   exact hend.out _ HC0_4.out
 ·have ekw : (kw == 0) = true := by simp [hkw]
  clear hkw
  have HC0_4 := hJ (bt (bt (bt HB7.out HB14.out) HB21.out) HB28.out)
  go_wp2_with fail
  all_goals (first | (exfalso; have e1 : kw = 0 := (by simpa using ekw); contradiction) | skip)
  all_goals
   exact hend.out _ HC0_4.out
 ·have hal := HAL.out hkx hkz hkw
  subst hin
  obtain ⟨h1, h2⟩ := hal
  subst h2
  rw [show (!true) = false from rfl] at h1
  subst h1
  have HC0_4 := hJ (bt (bt (bt HB7.out HB14.out) HB21.out) HB28.out)
  go_wp2_with fail
  exact hend.out _ HC0_4.out
 ·have hal := HAL.out hkx hkz hkw
  subst hin
  obtain ⟨h1, h2⟩ := hal
  subst h2
  rw [show (!false) = true from rfl] at h1
  subst h1
  have HC0_4 := hJ (bt (bt (bt HB7.out HB14.out) HB21.out) HB28.out)
  go_wp2_with fail
  exact hend.out _ HC0_4.out
set_option maxRecDepth 100000 in
set_option maxHeartbeats 12800000 in
theorem turns_t3 {u0 u1 u2 u3 u4 u5 u6 u8 u9 u10 u11 u12 u13 u14 u15 u16 u17 u18 u19 u20 u21 u22 u23 u24 u25 u26 u27 u28 u29 u30 u31 u32 u33 u34 u35 u36 u37 u38 u39 u40 u41 u42 u43 u44 u45 u46 u47 u48 u49 u50 u51 u52 u53 u54 u55 u56 u57 u58 u59 u60 u61 u62 u63 u64 u65 u66 u67 u68 u69 u70 u71 u72 u73 u74 u75 u76 u77 u78 u79 u80 u81 u82 u83 u84 u85 u86 u87 u88 u89 u90 u91 u92 u93 u94 u95 u96 u97 u98 u99 u100 u101 u102 u103 u104 u105 u106 u107 u108 u109 u110 u111 u112 u113 u114 u115 u116 u117 u118 u119 u120 u121 u122 u123 u124 u125 u126 u127 u128 u129 u130 u131 u132 u133 u134 u135 u136 u137 u138 u139 u140 u141 u142 u143 u144 u145 u146 u147 u148 u149 u150 u151 u152 u153 u154 u155 u156 u157 u158 u159 u160 u161 u162 u163 u164 u165 u166 u167 u168 u169 u170 u171 u172 u173 u174 u175 u176 u177 u178 u179 u180 u181 u182 u183 u184 u185 u186 u187 u188 u189 u190 u191 u192 u193 u194 u195 u196 u197 u198 u199 u200 u201 u202 u203 u204 u205 u206 u207 u208 u209 u210 u211 u212 u213 u214 u215 u216 u217 u218 u219 u220 u221 u222 u223 u224 u225 u226 u227 u228 u229 u230 u231 u232 u233 u234 u235 u236 u237 u238 u239 u240 u241 u242 u243 u244 u245 u246 u247 u248 u249 u250 u251 u252 u253 u254 u255 u256 u257 u258 u259 u260 u261 u262 u263 u264 u265 u266 u267 u268 u269 : Value} (px0_0 py0_0 px1_0 py1_0 px2_0 py2_0 px3_0 py3_0 : Int) (B gx cpx : Nat) (w0 w : World)
  (HPR0 : Hid (Di px0_0 py0_0)) (HPR1 : Hid (Di px1_0 py1_0)) (HPR2 : Hid (Di px2_0 py2_0)) (HPR3 : Hid (Di px3_0 py3_0))
  (HOX : Hid (OwnR noU w B 25 2 (.slice (some ⟨gx, 0, none⟩) 4 cpx) 4 [.int .i64 px0_0, .int .i64 py0_0, .int .i64 px1_0, .int .i64 py1_0, .int .i64 px2_0, .int .i64 py2_0, .int .i64 px3_0, .int .i64 py3_0])) (HBL : Hid (Below w0.heap.size w0 w))
  (K K1 K2 : Act → World → Prop) (hK1 : ∀ a w, Code.wp Try.prog (sq 6 turB) (Exit.then K1 (bodyPost Try.prog Try.f4 fun e w' => e = .returned (.bool true) ∧ Below w0.heap.size w0 w')) a w → K2 a w) (hK : ∀ a w, Code.wp Try.prog (sn (fs (sq 5 turB))) (Exit.then K2 (bodyPost Try.prog Try.f4 fun e w' => e = .returned (.bool true) ∧ Below w0.heap.size w0 w')) a w → K a w) :
  Code.wp Try.prog (fs (fs (sq 5 turB))) (Exit.then K (bodyPost Try.prog Try.f4 fun e w' => e = .returned (.bool true) ∧ Below w0.heap.size w0 w')) ⟨(u0 :: u1 :: u2 :: u3 :: u4 :: u5 :: u6 :: (.slice (some ⟨gx, 0, none⟩) 4 cpx : Value) :: u8 :: u9 :: u10 :: u11 :: u12 :: u13 :: u14 :: u15 :: u16 :: u17 :: u18 :: u19 :: u20 :: u21 :: u22 :: u23 :: u24 :: u25 :: u26 :: u27 :: u28 :: u29 :: u30 :: u31 :: u32 :: u33 :: u34 :: u35 :: u36 :: u37 :: u38 :: u39 :: u40 :: u41 :: u42 :: u43 :: u44 :: u45 :: u46 :: u47 :: u48 :: u49 :: u50 :: u51 :: u52 :: u53 :: u54 :: u55 :: u56 :: u57 :: u58 :: u59 :: u60 :: u61 :: u62 :: u63 :: u64 :: u65 :: u66 :: u67 :: u68 :: u69 :: u70 :: u71 :: u72 :: u73 :: u74 :: u75 :: u76 :: u77 :: u78 :: u79 :: u80 :: u81 :: u82 :: u83 :: u84 :: u85 :: u86 :: u87 :: u88 :: u89 :: u90 :: u91 :: u92 :: u93 :: u94 :: u95 :: u96 :: u97 :: u98 :: u99 :: u100 :: u101 :: u102 :: u103 :: u104 :: u105 :: u106 :: u107 :: u108 :: u109 :: u110 :: u111 :: u112 :: u113 :: u114 :: u115 :: u116 :: u117 :: u118 :: u119 :: u120 :: u121 :: u122 :: u123 :: u124 :: u125 :: u126 :: u127 :: u128 :: u129 :: u130 :: u131 :: u132 :: u133 :: u134 :: u135 :: u136 :: u137 :: u138 :: u139 :: u140 :: u141 :: u142 :: u143 :: u144 :: u145 :: u146 :: u147 :: u148 :: u149 :: u150 :: u151 :: u152 :: u153 :: u154 :: u155 :: u156 :: u157 :: u158 :: u159 :: u160 :: u161 :: u162 :: u163 :: u164 :: u165 :: u166 :: u167 :: u168 :: u169 :: u170 :: u171 :: u172 :: u173 :: u174 :: u175 :: u176 :: u177 :: u178 :: u179 :: u180 :: u181 :: u182 :: u183 :: u184 :: u185 :: u186 :: u187 :: u188 :: u189 :: u190 :: u191 :: u192 :: u193 :: u194 :: u195 :: u196 :: u197 :: u198 :: u199 :: u200 :: u201 :: u202 :: u203 :: u204 :: u205 :: u206 :: u207 :: u208 :: u209 :: u210 :: u211 :: u212 :: u213 :: u214 :: u215 :: u216 :: u217 :: u218 :: u219 :: u220 :: u221 :: u222 :: u223 :: u224 :: u225 :: u226 :: u227 :: u228 :: u229 :: u230 :: u231 :: u232 :: u233 :: u234 :: u235 :: u236 :: u237 :: u238 :: u239 :: u240 :: u241 :: u242 :: u243 :: u244 :: u245 :: u246 :: u247 :: u248 :: u249 :: u250 :: u251 :: u252 :: u253 :: u254 :: u255 :: u256 :: u257 :: u258 :: u259 :: u260 :: u261 :: u262 :: u263 :: u264 :: u265 :: u266 :: u267 :: u268 :: u269 :: []).toArray, []⟩ w := by
 conv => arg 2; whnf
 conv at hK => intro a w; arg 1; arg 2; whnf
 conv at hK1 => intro a w; arg 1; arg 2; whnf
 go_wp2_with fail
 go_loopw [19] (fun tv wr => ∃ i : Nat, i ≤ 64 ∧ tv = .int .i64 (i : Int) ∧ Below w.heap.size w wr) (fun tv _ => 64 - (intOf tv).toNat)
 case atStart => exact ⟨0, by omega, rfl, Below.refl _ _⟩
 case round =>
  obtain ⟨i1, hi, rfl, hbel⟩ := hrel
  obtain ⟨wl1, rfl⟩ : ∃ W : World, W = wr := ⟨_, rfl⟩
  have HB1 := hJ hbel
  clear hbel
  rcases (show i1 < 64 ∨ i1 = 64 by omega) with hlt | rfl
  ·have h0i : (0 : Int) ≤ (i1 : Int) := by omega
   have hli : (i1 : Int) < 64 := by omega
   obtain ⟨ja, hja⟩ : ∃ j : Nat, i1 % 4 = j := ⟨_, rfl⟩
   obtain ⟨jb, hjb⟩ : ∃ j : Nat, i1 / 4 % 4 = j := ⟨_, rfl⟩
   obtain ⟨jc, hjc⟩ : ∃ j : Nat, i1 / 16 = j := ⟨_, rfl⟩
   have hjl : ja < 4 ∧ jb < 4 ∧ jc < 4 := by omega
   have HJ := hJ (show ((i1 : Int) % 4 = (ja : Int) ∧ (IntKind.i64.wrap ((i1 : Int) / 4) = (i1 : Int) / 4 ∧ (i1 : Int) / 4 % 4 = (jb : Int))) ∧ (IntKind.i64.wrap ((i1 : Int) / 16) = (jc : Int) ∧ ((i1 : Int) / 16 = (jc : Int))) from ⟨⟨by omega, IntWalk.i64_in _ (by omega), by omega⟩, by rw [show (i1 : Int) / 16 = (jc : Int) by omega]; exact IntWalk.i64_in _ (by omega), by omega⟩)
   have HJL := hJ hjl
   have HJ4 := hJ (show (0 : Int) ≤ (ja : Int) ∧ (ja : Int) < 4 ∧ (0 : Int) ≤ (jb : Int) ∧ (jb : Int) < 4 ∧ (0 : Int) ≤ (jc : Int) ∧ (jc : Int) < 4 by omega)
   obtain ⟨hja4, hjb4, hjc4⟩ := hjl
   clear hja hjb hjc
   have HOXw1 := hJ (OwnR.new HOX.out HB1.out)
   obtain ⟨vx11, vy11, h0, h1, h2⟩ : ∃ (vx11 vy11 : Int), ([.int .i64 px0_0, .int .i64 py0_0, .int .i64 px1_0, .int .i64 py1_0, .int .i64 px2_0, .int .i64 py2_0, .int .i64 px3_0, .int .i64 py3_0] : List Value)[ja * 2]? = some (.int .i64 vx11) ∧ ([.int .i64 px0_0, .int .i64 py0_0, .int .i64 px1_0, .int .i64 py1_0, .int .i64 px2_0, .int .i64 py2_0, .int .i64 px3_0, .int .i64 py3_0] : List Value)[ja * 2 + 1]? = some (.int .i64 vy11) ∧ Di vx11 vy11 := by
    have hcs : ja = 0 ∨ ja = 1 ∨ ja = 2 ∨ ja = 3 := by omega
    rcases hcs with rfl | rfl | rfl | rfl
    ·exact ⟨_, _, rfl, rfl, HPR0.out⟩
    ·exact ⟨_, _, rfl, rfl, HPR1.out⟩
    ·exact ⟨_, _, rfl, rfl, HPR2.out⟩
    ·exact ⟨_, _, rfl, rfl, HPR3.out⟩
   have HS11_0 := hJ h0
   have HS11_1 := hJ h1
   have HPV11 := hJ h2
   clear h0 h1 h2
   obtain ⟨vx12, vy12, h0, h1, h2⟩ : ∃ (vx12 vy12 : Int), ([.int .i64 px0_0, .int .i64 py0_0, .int .i64 px1_0, .int .i64 py1_0, .int .i64 px2_0, .int .i64 py2_0, .int .i64 px3_0, .int .i64 py3_0] : List Value)[jb * 2]? = some (.int .i64 vx12) ∧ ([.int .i64 px0_0, .int .i64 py0_0, .int .i64 px1_0, .int .i64 py1_0, .int .i64 px2_0, .int .i64 py2_0, .int .i64 px3_0, .int .i64 py3_0] : List Value)[jb * 2 + 1]? = some (.int .i64 vy12) ∧ Di vx12 vy12 := by
    have hcs : jb = 0 ∨ jb = 1 ∨ jb = 2 ∨ jb = 3 := by omega
    rcases hcs with rfl | rfl | rfl | rfl
    ·exact ⟨_, _, rfl, rfl, HPR0.out⟩
    ·exact ⟨_, _, rfl, rfl, HPR1.out⟩
    ·exact ⟨_, _, rfl, rfl, HPR2.out⟩
    ·exact ⟨_, _, rfl, rfl, HPR3.out⟩
   have HS12_0 := hJ h0
   have HS12_1 := hJ h1
   have HPV12 := hJ h2
   clear h0 h1 h2
   obtain ⟨vx13, vy13, h0, h1, h2⟩ : ∃ (vx13 vy13 : Int), ([.int .i64 px0_0, .int .i64 py0_0, .int .i64 px1_0, .int .i64 py1_0, .int .i64 px2_0, .int .i64 py2_0, .int .i64 px3_0, .int .i64 py3_0] : List Value)[jc * 2]? = some (.int .i64 vx13) ∧ ([.int .i64 px0_0, .int .i64 py0_0, .int .i64 px1_0, .int .i64 py1_0, .int .i64 px2_0, .int .i64 py2_0, .int .i64 px3_0, .int .i64 py3_0] : List Value)[jc * 2 + 1]? = some (.int .i64 vy13) ∧ Di vx13 vy13 := by
    have hcs : jc = 0 ∨ jc = 1 ∨ jc = 2 ∨ jc = 3 := by omega
    rcases hcs with rfl | rfl | rfl | rfl
    ·exact ⟨_, _, rfl, rfl, HPR0.out⟩
    ·exact ⟨_, _, rfl, rfl, HPR1.out⟩
    ·exact ⟨_, _, rfl, rfl, HPR2.out⟩
    ·exact ⟨_, _, rfl, rfl, HPR3.out⟩
   have HS13_0 := hJ h0
   have HS13_1 := hJ h1
   have HPV13 := hJ h2
   clear h0 h1 h2
   clear hja4 hjb4 hjc4
   have hma1 := HJ.out.1.1
   have hma2 := HJ4.out.1
   have hma3 := HJ4.out.2.1
   have cl2 := HOXw1.out.at (ja * 2) HS11_0.out
   have cl3 := HOXw1.out.at (ja * 2 + 1) HS11_1.out
   have hmb1 := HJ.out.1.2.1
   have hmb4 := HJ.out.1.2.2
   have hmb2 := HJ4.out.2.2.1
   have hmb3 := HJ4.out.2.2.2.1
   have hmb5 : (0 : Int) ≤ (i1 : Int) / 4 := by omega
   obtain ⟨x4, hx4⟩ := nmz (wl1.alloc (.cells #[.int .i64 vx11, .int .i64 vy11] 25))
   have HB4 := hJ (show Below wl1.heap.size wl1 x4 by rw [← hx4]; exact ((Below.refl _ _).alloc (Nat.le_refl _) _))
   have HQ4x0 := hJ (show BX 25 x4 wl1.heap.size #[.int .i64 vx11, .int .i64 vy11] by rw [← hx4]; exact (BX.at rfl))
   have HG4x0 := hJ (show wl1.heap.size ≤ wl1.heap.size by omega)
   have HL4x0 := hJ (show wl1.heap.size < x4.heap.size from HQ4x0.out.lt)
   have HOXw2 := hJ (OwnR.new HOXw1.out HB4.out)
   have cl5 := HOXw2.out.at (jb * 2) HS12_0.out
   have cl6 := HOXw2.out.at (jb * 2 + 1) HS12_1.out
   have hmc1 := HJ.out.2.1
   have hmc4 := HJ.out.2.2
   have hmc2 := HJ4.out.2.2.2.2.1
   have hmc3 := HJ4.out.2.2.2.2.2
   obtain ⟨x7, hx7⟩ := nmz (x4.alloc (.cells #[.int .i64 vx12, .int .i64 vy12] 25))
   have HB7 := hJ (show Below x4.heap.size x4 x7 by rw [← hx7]; exact ((Below.refl _ _).alloc (Nat.le_refl _) _))
   have HQ7x0 := hJ (show BX 25 x7 x4.heap.size #[.int .i64 vx12, .int .i64 vy12] by rw [← hx7]; exact (BX.at rfl))
   have HG7x0 := hJ (show x4.heap.size ≤ x4.heap.size by omega)
   have HL7x0 := hJ (show x4.heap.size < x7.heap.size from HQ7x0.out.lt)
   have HOXw3 := hJ (OwnR.new HOXw2.out HB7.out)
   have cl8 := HOXw3.out.at (jc * 2) HS13_0.out
   have cl9 := HOXw3.out.at (jc * 2 + 1) HS13_1.out
   obtain ⟨ra, hra⟩ := nmz (rk vx11 vy11)
   have HRa := hJ hra
   clear hra
   obtain ⟨rb, hrb⟩ := nmz (rk vx12 vy12)
   have HRb := hJ hrb
   clear hrb
   obtain ⟨rc, hrc⟩ := nmz (rk vx13 vy13)
   have HRc := hJ hrc
   clear hrc
   obtain ⟨kx, hkx⟩ := nmz (cmpI ra rb)
   obtain ⟨ky, hky⟩ := nmz (cmpI rb ra)
   obtain ⟨kz, hkz⟩ := nmz (cmpI rb rc)
   obtain ⟨kw, hkw⟩ := nmz (cmpI ra rc)
   obtain ⟨In, hin⟩ := nmz (seV ra rb rc)
   obtain ⟨Ot, hot⟩ := nmz (seV rb ra rc)
   obtain ⟨Nx, hnx⟩ := nmz (seV rb rc ra)
   have HKX := hJ hkx
   have HKY := hJ hky
   have HKZ := hJ hkz
   have HKW := hJ hkw
   have HIN := hJ hin
   have HOT := hJ hot
   have HNX := hJ hnx
   have HNG := hJ (show IntKind.i64.wrap (-kx) = ky by rw [← hkx, ← hky]; exact cm_neg2 ra rb)
   have HTR := hJ (show kx ≤ 0 → kz ≤ 0 → kw ≤ 0 by rw [← hkx, ← hkz, ← hkw]; exact cm_tr ra rb rc)
   have HAL := hJ (show ¬ kx = 0 → ¬ kz = 0 → ¬ kw = 0 → Ot = !In ∧ Nx = In by rw [← hkx, ← hkz, ← hkw, ← hot, ← hin, ← hnx]; exact se_all ra rb rc)
   clear hkx hky hkz hkw hin hot hnx
   obtain ⟨x10, hx10⟩ := nmz (x7.alloc (.cells #[.int .i64 vx13, .int .i64 vy13] 25))
   have HB10 := hJ (show Below x7.heap.size x7 x10 by rw [← hx10]; exact ((Below.refl _ _).alloc (Nat.le_refl _) _))
   have HQ10x0 := hJ (show BX 25 x10 x7.heap.size #[.int .i64 vx13, .int .i64 vy13] by rw [← hx10]; exact (BX.at rfl))
   have HG10x0 := hJ (show x7.heap.size ≤ x7.heap.size by omega)
   have HL10x0 := hJ (show x7.heap.size < x10.heap.size from HQ10x0.out.lt)
   have HC2_4 := hJ (bt HB7.out HB10.out)
   have HQ4x0w4 := hJ (BX.new HQ4x0.out HC2_4.out)
   obtain ⟨cl11, cl12⟩ := HQ4x0w4.out.c2 0 1 rfl rfl
   have HQ7x0w4 := hJ (BX.new HQ7x0.out HB10.out)
   obtain ⟨cl13, cl14⟩ := HQ7x0w4.out.c2 0 1 rfl rfl
   go_wp2_with fail
   clear hma1 hma2 hma3 cl2 cl3 hmb1 hmb2 hmb3 hmb4 hmb5 hx4 cl5 cl6 hmc1 hmc2 hmc3 hmc4 hx7 cl8 cl9 hx10 cl11 cl12 cl13 cl14
   refine (turn_any vx11 vy11 vx12 vy12 x10).mono ?_
   rw [tv_ok HPV11.out HPV12.out, HRa.out, HRb.out, HKX.out, te_ok HPV11.out HPV12.out]
   rintro e w15 ⟨rfl, hb⟩
   have HB15 := hJ hb
   clear hb
   have HQ7x0w5 := hJ (BX.new HQ7x0w4.out HB15.out)
   obtain ⟨cl16, cl17⟩ := HQ7x0w5.out.c2 0 1 rfl rfl
   have HQ4x0w5 := hJ (BX.new HQ4x0w4.out HB15.out)
   obtain ⟨cl18, cl19⟩ := HQ4x0w5.out.c2 0 1 rfl rfl
   go_wp2_with fail
   clear cl16 cl17 cl18 cl19
   refine (turn_any vx12 vy12 vx11 vy11 w15).mono ?_
   rw [tv_ok HPV12.out HPV11.out, HRb.out, HRa.out, HKY.out, te_ok HPV12.out HPV11.out]
   rintro e w20 ⟨rfl, hb⟩
   have HB20 := hJ hb
   clear hb
   have HQ7x0w6 := hJ (BX.new HQ7x0w5.out HB20.out)
   obtain ⟨cl21, cl22⟩ := HQ7x0w6.out.c2 0 1 rfl rfl
   have HC4_6 := hJ (bt HB15.out HB20.out)
   have HQ10x0w6 := hJ (BX.new HQ10x0.out HC4_6.out)
   obtain ⟨cl23, cl24⟩ := HQ10x0w6.out.c2 0 1 rfl rfl
   go_wp2_with fail
   clear cl21 cl22 cl23 cl24
   refine (turn_any vx12 vy12 vx13 vy13 w20).mono ?_
   rw [tv_ok HPV12.out HPV13.out, HRb.out, HRc.out, HKZ.out, te_ok HPV12.out HPV13.out]
   rintro e w25 ⟨rfl, hb⟩
   have HB25 := hJ hb
   clear hb
   have HC5_7 := hJ (bt HB20.out HB25.out)
   have HQ4x0w7 := hJ (BX.new HQ4x0w5.out HC5_7.out)
   obtain ⟨cl26, cl27⟩ := HQ4x0w7.out.c2 0 1 rfl rfl
   have HQ10x0w7 := hJ (BX.new HQ10x0w6.out HB25.out)
   obtain ⟨cl28, cl29⟩ := HQ10x0w7.out.c2 0 1 rfl rfl
   go_wp2_with fail
   clear cl26 cl27 cl28 cl29
   refine (turn_any vx11 vy11 vx13 vy13 w25).mono ?_
   rw [tv_ok HPV11.out HPV13.out, HRa.out, HRc.out, HKW.out, te_ok HPV11.out HPV13.out]
   rintro e w30 ⟨rfl, hb⟩
   have HB30 := hJ hb
   clear hb
   have HQ4x0w8 := hJ (BX.new HQ4x0w7.out HB30.out)
   obtain ⟨cl31, cl32⟩ := HQ4x0w8.out.c2 0 1 rfl rfl
   have HC6_8 := hJ (bt HB25.out HB30.out)
   have HQ7x0w8 := hJ (BX.new HQ7x0w6.out HC6_8.out)
   obtain ⟨cl33, cl34⟩ := HQ7x0w8.out.c2 0 1 rfl rfl
   go_wp2_with fail
   clear cl31 cl32 cl33 cl34
   refine (rturn_any vx11 vy11 vx12 vy12 w30 HPV11.out HPV12.out).mono ?_
   rw [ro_ok HPV11.out HPV12.out, HRa.out, HRb.out, HKX.out]
   rintro e w35 ⟨rfl, hb⟩
   have HB35 := hJ hb
   clear hb
   have hng := HNG.out
   rcases (show 0 < kx ∨ (kx ≤ 0 ∧ 0 < kz) ∨ (kx ≤ 0 ∧ kz ≤ 0) by omega) with q1 | ⟨q1, q2⟩ | ⟨q1, q2⟩
   ·skip
    have HQ4x0w9 := hJ (BX.new HQ4x0w8.out HB35.out)
    have HQ7x0w9 := hJ (BX.new HQ7x0w8.out HB35.out)
    have HC7_9 := hJ (bt HB30.out HB35.out)
    have HQ10x0w9 := hJ (BX.new HQ10x0w7.out HC7_9.out)
    go_upto_region 32 with fail
    clear hng
    refine wp_mono (turns_t4 vx11 vy11 vx12 vy12 vx13 vy13 ra rb rc kx kz kw In Ot Nx gx cpx wl1.heap.size x4.heap.size x7.heap.size i1 w35 HPV11 HPV12 HPV13 HRa HRb HRc HIN HOT HNX HAL HQ4x0w9 HQ7x0w9 HQ10x0w9 _ _ _ ?_ (by assumption)) (fun e a w h => h)
    refine hJ ?_
    intros
    rename_i wz36 hbz36
    have HB36 := hJ hbz36
    clear hbz36
    have HC0_10 := hJ (bt (bt (bt (bt (bt (bt (bt (bt (bt HB1.out HB4.out) HB7.out) HB10.out) HB15.out) HB20.out) HB25.out) HB30.out) HB35.out) HB36.out)
    go_wp2_with fail
    go_roundw
    case rel => exact ⟨i1 + 1, by omega, by go_num, HC0_10.out⟩
    case measure => simp [intOf] <;> omega
   ·skip
    have HQ4x0w9 := hJ (BX.new HQ4x0w8.out HB35.out)
    have HQ7x0w9 := hJ (BX.new HQ7x0w8.out HB35.out)
    have HC7_9 := hJ (bt HB30.out HB35.out)
    have HQ10x0w9 := hJ (BX.new HQ10x0w7.out HC7_9.out)
    go_upto_region 32 with fail
    clear hng
    refine wp_mono (turns_t4 vx11 vy11 vx12 vy12 vx13 vy13 ra rb rc kx kz kw In Ot Nx gx cpx wl1.heap.size x4.heap.size x7.heap.size i1 w35 HPV11 HPV12 HPV13 HRa HRb HRc HIN HOT HNX HAL HQ4x0w9 HQ7x0w9 HQ10x0w9 _ _ _ ?_ (by assumption)) (fun e a w h => h)
    refine hJ ?_
    intros
    rename_i wz37 hbz37
    have HB37 := hJ hbz37
    clear hbz37
    have HC0_10 := hJ (bt (bt (bt (bt (bt (bt (bt (bt (bt HB1.out HB4.out) HB7.out) HB10.out) HB15.out) HB20.out) HB25.out) HB30.out) HB35.out) HB37.out)
    go_wp2_with fail
    go_roundw
    case rel => exact ⟨i1 + 1, by omega, by go_num, HC0_10.out⟩
    case measure => simp [intOf] <;> omega
   ·have q3 := HTR.out q1 q2
    have HQ4x0w9 := hJ (BX.new HQ4x0w8.out HB35.out)
    have HQ7x0w9 := hJ (BX.new HQ7x0w8.out HB35.out)
    have HC7_9 := hJ (bt HB30.out HB35.out)
    have HQ10x0w9 := hJ (BX.new HQ10x0w7.out HC7_9.out)
    go_upto_region 32 with fail
    clear hng
    refine wp_mono (turns_t4 vx11 vy11 vx12 vy12 vx13 vy13 ra rb rc kx kz kw In Ot Nx gx cpx wl1.heap.size x4.heap.size x7.heap.size i1 w35 HPV11 HPV12 HPV13 HRa HRb HRc HIN HOT HNX HAL HQ4x0w9 HQ7x0w9 HQ10x0w9 _ _ _ ?_ (by assumption)) (fun e a w h => h)
    refine hJ ?_
    intros
    rename_i wz38 hbz38
    have HB38 := hJ hbz38
    clear hbz38
    have HC0_10 := hJ (bt (bt (bt (bt (bt (bt (bt (bt (bt HB1.out HB4.out) HB7.out) HB10.out) HB15.out) HB20.out) HB25.out) HB30.out) HB35.out) HB38.out)
    go_wp2_with fail
    go_roundw
    case rel => exact ⟨i1 + 1, by omega, by go_num, HC0_10.out⟩
    case measure => simp [intOf] <;> omega
  ·(try rw [show ((64 : Nat) : Int) = 64 from rfl])
   go_wp2_with fail
   refine (lives6_any wl1).mono ?_
   rintro e w39 ⟨rfl, hb⟩
   have HB39 := hJ hb
   clear hb
   have HC0_2 := hJ (bt HB1.out HB39.out)
   go_wp2
   go_ret
   exact ⟨rfl, bt HBL.out HC0_2.out⟩
end Go.Proofs.Ytdamadkhbeonaaa
