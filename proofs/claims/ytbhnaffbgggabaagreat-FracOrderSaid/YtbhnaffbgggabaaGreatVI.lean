/- The end of the walk of the law FracOrder. -/
import Derived.Test.YtbhnaffbgggabaaGreatFF
import Derived.Test.YtbhnaffbgggabaaGreatAQ
import Derived.Test.YtbhnaffbgggabaaGreatAD
import Derived.Test.YtbhnaffbgggabaaGreatAG
import Derived.Test.YtbhnaffbgggabaaGreatVF
import Derived.Laws.BytesArg
import Derived.Deep.DeepCutAuto
namespace Go.Proofs.YtbhnaffbgggabaaGreat
open Go.RowKit
attribute [local go_sem ↓] Go.wp_at_zero Go.wp_at_succ
set_option linter.unusedVariables false
set_option linter.unusedSimpArgs false
/-- The same region, its state put in another form. -/
theorem wpAnyH_cast2 {P : Program} {md : Region.Mode} {ops : Array Oper} {Q : Exit → Act → World → Prop} {S : World → Prop} {fuel : Nat} {L L' : Array Bool} {A A' : Act} {w : World} (hA : A = A') (hL : L = L') (h : wpAnyH P md ops Q S fuel L A w) : wpAnyH P md ops Q S fuel L' A' w := hA ▸ hL ▸ h
/-- The code behind n statements. -/
def sq : Nat → Code → Code
 | 0, c => c
 | n + 1, .seq _ b => sq n b
 | _ + 1, c => c
def fs : Code → Code
 | .seq a _ => a
 | c => c
noncomputable def ordB : Code := (Tryz.f6.body).getD .skip
set_option maxRecDepth 100000 in
set_option maxHeartbeats 12800000 in
theorem order_t26 {u0 u1 u2 u3 u5 u6 u7 u8 u10 u11 u12 u13 u14 u15 u16 u17 u18 u19 u20 u21 u22 u23 u24 u25 u26 u27 u28 u29 u30 u31 u32 u33 u34 u35 u36 u37 u38 u39 u40 u41 u42 u43 u44 u45 u46 u47 u48 u49 u50 u51 u52 u53 u54 u55 u56 u57 u58 u59 u60 u61 u62 u63 u64 u65 u66 u67 u68 u69 u70 u71 u72 u73 u74 u75 u76 u77 u78 u79 u80 u81 u82 u83 u84 u85 u86 u87 u88 u89 u90 u91 u92 u93 u94 u95 u96 u97 u98 u99 u100 u101 u102 u103 u104 u105 u106 u107 u108 u109 u110 u111 u112 u113 u114 u115 u116 u117 u118 u119 u120 u121 u122 u123 u124 u125 u126 u127 u128 u129 u130 u131 u132 u133 u134 u135 u136 u137 u138 u139 u140 u141 u142 u143 u144 u145 u146 u147 u148 u149 u150 u151 u152 u153 u154 u155 u156 u157 u158 u159 u160 u161 u162 u163 u164 u165 u166 u167 u168 u169 u170 u171 u172 u173 u174 u175 u176 u177 u178 u179 u180 u181 u182 u183 u184 u185 u186 u187 u188 u189 u190 u191 u192 u193 u194 u195 u196 u197 u198 u199 u200 u201 u202 u203 u204 u205 u206 u207 u208 u209 u210 u211 u212 u213 u214 u215 u216 u217 u218 u219 u220 u221 u222 u223 u224 u225 u226 u227 u228 u229 u230 u231 u232 u233 u234 u235 u236 u237 u238 u239 u240 u241 u242 u243 u244 u245 u246 u247 u248 u249 u250 u251 u252 u253 u254 u255 u256 u257 u258 u259 u260 u261 u262 u263 u264 u265 u266 u267 : Value} (p0 q0 p1 q1 p2 q2 : Int) (B gx cpx : Nat) (sx0 : Bool) (Ax0 : Option Addr) (nx0 cx0 : Nat) (tx0 : Bool) (Bx0 : Option Addr) (mx0 dx0 : Nat) (sx1 : Bool) (Ax1 : Option Addr) (nx1 cx1 : Nat) (tx1 : Bool) (Bx1 : Option Addr) (mx1 dx1 : Nat) (sx2 : Bool) (Ax2 : Option Addr) (nx2 cx2 : Nat) (tx2 : Bool) (Bx2 : Option Addr) (mx2 dx2 : Nat) (w0 w : World) (ca cg cz : Int) (HCA : Hid (cmpI (p0 * q1) (p1 * q0) = ca)) (HCG : Hid (cmpI p2 0 = cg)) (HCZ : Hid (ca * cg = cz)) (HZW : Hid (IntKind.i64.wrap (ca * cg) = cz))
  (HF0 : Hid (Fr p0 q0 ∧ p0.natAbs < B2 2001 ∧ q0.natAbs < B2 2001)) (HF1 : Hid (Fr p1 q1 ∧ p1.natAbs < B2 2001 ∧ q1.natAbs < B2 2001)) (HF2 : Hid (Fr p2 q2 ∧ p2.natAbs < B2 2001 ∧ q2.natAbs < B2 2001))
  (HOX : Hid (OwnR noD w B 35 4 (.slice (some ⟨gx, 0, none⟩) 3 cpx) 3 [.bool sx0, .slice Ax0 nx0 cx0, .bool tx0, .slice Bx0 mx0 dx0, .bool sx1, .slice Ax1 nx1 cx1, .bool tx1, .slice Bx1 mx1 dx1, .bool sx2, .slice Ax2 nx2 cx2, .bool tx2, .slice Bx2 mx2 dx2]))
  (HPX0 : Hid (PF w sx0 Ax0 nx0 cx0 tx0 Bx0 mx0 dx0 p0 q0)) (HPX1 : Hid (PF w sx1 Ax1 nx1 cx1 tx1 Bx1 mx1 dx1 p1 q1)) (HPX2 : Hid (PF w sx2 Ax2 nx2 cx2 tx2 Bx2 mx2 dx2 p2 q2)) (HBL : Hid (Below w0.heap.size w0 w))
  (K K1 : Act → World → Prop) (hK : ∀ a w, Code.wp Tryz.prog (sq 12 ordB) (Exit.then K1 (bodyPost Tryz.prog Tryz.f6 fun e w' => e = .returned (.bool true) ∧ Below w0.heap.size w0 w')) a w → K a w) :
  Code.wp Tryz.prog (fs (sq 11 ordB)) (Exit.then K (bodyPost Tryz.prog Tryz.f6 fun e w' => e = .returned (.bool true) ∧ Below w0.heap.size w0 w')) ⟨(u0 :: u1 :: u2 :: u3 :: (.slice (some ⟨gx, 0, none⟩) 3 cpx : Value) :: u5 :: u6 :: u7 :: u8 :: (.int .i64 ca : Value) :: u10 :: u11 :: u12 :: u13 :: u14 :: u15 :: u16 :: u17 :: u18 :: u19 :: u20 :: u21 :: u22 :: u23 :: u24 :: u25 :: u26 :: u27 :: u28 :: u29 :: u30 :: u31 :: u32 :: u33 :: u34 :: u35 :: u36 :: u37 :: u38 :: u39 :: u40 :: u41 :: u42 :: u43 :: u44 :: u45 :: u46 :: u47 :: u48 :: u49 :: u50 :: u51 :: u52 :: u53 :: u54 :: u55 :: u56 :: u57 :: u58 :: u59 :: u60 :: u61 :: u62 :: u63 :: u64 :: u65 :: u66 :: u67 :: u68 :: u69 :: u70 :: u71 :: u72 :: u73 :: u74 :: u75 :: u76 :: u77 :: u78 :: u79 :: u80 :: u81 :: u82 :: u83 :: u84 :: u85 :: u86 :: u87 :: u88 :: u89 :: u90 :: u91 :: u92 :: u93 :: u94 :: u95 :: u96 :: u97 :: u98 :: u99 :: u100 :: u101 :: u102 :: u103 :: u104 :: u105 :: u106 :: u107 :: u108 :: u109 :: u110 :: u111 :: u112 :: u113 :: u114 :: u115 :: u116 :: u117 :: u118 :: u119 :: u120 :: u121 :: u122 :: u123 :: u124 :: u125 :: u126 :: u127 :: u128 :: u129 :: u130 :: u131 :: u132 :: u133 :: u134 :: u135 :: u136 :: u137 :: u138 :: u139 :: u140 :: u141 :: u142 :: u143 :: u144 :: u145 :: u146 :: u147 :: u148 :: u149 :: u150 :: u151 :: u152 :: u153 :: u154 :: u155 :: u156 :: u157 :: u158 :: u159 :: u160 :: u161 :: u162 :: u163 :: u164 :: u165 :: u166 :: u167 :: u168 :: u169 :: u170 :: u171 :: u172 :: u173 :: u174 :: u175 :: u176 :: u177 :: u178 :: u179 :: u180 :: u181 :: u182 :: u183 :: u184 :: u185 :: u186 :: u187 :: u188 :: u189 :: u190 :: u191 :: u192 :: u193 :: u194 :: u195 :: u196 :: u197 :: u198 :: u199 :: u200 :: u201 :: u202 :: u203 :: u204 :: u205 :: u206 :: u207 :: u208 :: u209 :: u210 :: u211 :: u212 :: u213 :: u214 :: u215 :: u216 :: u217 :: u218 :: u219 :: u220 :: u221 :: u222 :: u223 :: u224 :: u225 :: u226 :: u227 :: u228 :: u229 :: u230 :: u231 :: u232 :: u233 :: u234 :: u235 :: u236 :: u237 :: u238 :: u239 :: u240 :: u241 :: u242 :: u243 :: u244 :: u245 :: u246 :: u247 :: u248 :: u249 :: u250 :: u251 :: u252 :: u253 :: u254 :: u255 :: u256 :: u257 :: u258 :: u259 :: u260 :: u261 :: u262 :: u263 :: u264 :: u265 :: u266 :: u267 :: []).toArray, []⟩ w := by
 conv => arg 2; whnf
 conv at hK => intro a w; arg 1; arg 2; whnf
 have hv := vl_mul (vl_self HF0.out.1.1 HF0.out.2.1 HF0.out.2.2) (vl_self HF2.out.1.1 HF2.out.2.1 HF2.out.2.2) (by decide)
 obtain ⟨P11, hP⟩ := nmz (muP p0 q0 p2 q2)
 obtain ⟨Q11, hQ⟩ := nmz (muQ p0 q0 p2 q2)
 rw [hP, hQ] at hv
 have HCD11 := hJ hv.1
 have HVL11 := hJ (show Vl 4002 P11 Q11 (p0 * p2) (q0 * q2) from hv.2)
 have HNP11 := hJ hP
 have HNQ11 := hJ hQ
 clear hv hP hQ
 have HS1 : Hid (∀ w', Below w.heap.size w w' → (fun w' : World => w'.cell? ⟨gx, 0, none⟩ = some (.bool sx0) ∧ w'.cell? ⟨gx, 1, none⟩ = some (.slice Ax0 nx0 cx0) ∧ w'.cell? ⟨gx, 2, none⟩ = some (.bool tx0) ∧ w'.cell? ⟨gx, 3, none⟩ = some (.slice Bx0 mx0 dx0) ∧ w'.cell? ⟨gx, 8, none⟩ = some (.bool sx2) ∧ w'.cell? ⟨gx, 9, none⟩ = some (.slice Ax2 nx2 cx2) ∧ w'.cell? ⟨gx, 10, none⟩ = some (.bool tx2) ∧ w'.cell? ⟨gx, 11, none⟩ = some (.slice Bx2 mx2 dx2) ∧ Below w.heap.size w w') w') := hJ (fun w' hb => ⟨(OwnR.new HOX.out hb).at 0 rfl, (OwnR.new HOX.out hb).at 1 rfl, (OwnR.new HOX.out hb).at 2 rfl, (OwnR.new HOX.out hb).at 3 rfl, (OwnR.new HOX.out hb).at 8 rfl, (OwnR.new HOX.out hb).at 9 rfl, (OwnR.new HOX.out hb).at 10 rfl, (OwnR.new HOX.out hb).at 11 rfl, hb⟩)
 go_wp2_with fail
 obtain ⟨v1, hv1⟩ := nmz (World.drew w)
 have HX1 := hJ (show Below w.heap.size w v1 by rw [← hv1]; exact (Below.refl _ _).drew)
 refine wp_region_held_drew (S := (fun w' : World => w'.cell? ⟨gx, 0, none⟩ = some (.bool sx0) ∧ w'.cell? ⟨gx, 1, none⟩ = some (.slice Ax0 nx0 cx0) ∧ w'.cell? ⟨gx, 2, none⟩ = some (.bool tx0) ∧ w'.cell? ⟨gx, 3, none⟩ = some (.slice Bx0 mx0 dx0) ∧ w'.cell? ⟨gx, 8, none⟩ = some (.bool sx2) ∧ w'.cell? ⟨gx, 9, none⟩ = some (.slice Ax2 nx2 cx2) ∧ w'.cell? ⟨gx, 10, none⟩ = some (.bool tx2) ∧ w'.cell? ⟨gx, 11, none⟩ = some (.slice Bx2 mx2 dx2) ∧ Below w.heap.size w w')) (by kernel_rfl) ?_ (fun hHeld => ?_)
 ·rw [hv1]
  exact HS1.out _ HX1.out
 rw [hv1] at hHeld ⊢
 clear hv1
 refine tq 0 ?_
 try simp only [PT]
 refine tq 1 ?_
 try simp only [PT]
 refine tq 2 ?_
 try simp only [PT]
 refine tq 3 ?_
 try simp only [PT]
 refine tq 4 ?_
 try simp only [PT]
 refine tq 5 ?_
 try simp only [PT]
 refine wpAnyH_name (fun F hF a0 ha0 L0 hL0 => ?_)
 have J26_6_10 : ∀ s12 A12 n12 c12 t12 B12 m12 d12 g26_10 v, Hid (Below w.heap.size w v) → Hid (PF v s12 A12 n12 c12 t12 B12 m12 d12 P11 Q11) → Hid (BX 35 v g26_10 #[.bool false, .slice none 0 0, .bool false, .slice none 0 0]) → Hid (w.heap.size ≤ g26_10) → F 2 (Array.setIfInBounds (Array.setIfInBounds (Array.setIfInBounds (Array.setIfInBounds (Array.setIfInBounds L0 6 true) 10 true) 7 true) 8 true) 9 true) (Act.put (Act.put (Act.put (Act.put (Act.put a0 (some 181) (.tuple #[.agg #[.bool s12, .slice A12 n12 c12, .bool t12, .slice B12 m12 d12], .int .i64 0])) (some 15) (.pointer (some ⟨g26_10, 0, none⟩))) (some 174) (.tuple #[.agg #[.bool s12, .slice A12 n12 c12, .bool t12, .slice B12 m12 d12], .int .i64 0])) (some 182) (.agg #[.bool s12, .slice A12 n12 c12, .bool t12, .slice B12 m12 d12])) (some 183) (.int .i64 0)) v := by
  intro s12 A12 n12 c12 t12 B12 m12 d12 g26_10 v HXj HZ6hr12j HPg26_10j HGg26_10j
  subst hF ha0 hL0
  simp only [PT] at  ⊢
  have hHeld := HS1.out _ HXj.out
  refine wpAnyH_ready (rs := [11]) (by kernel_rfl) (by simp) ?_
  refine .cons rfl (fun K hK => ?_) .nil
  have z2_0 := HPg26_10j.out.cell 0 rfl
  have y2_0 := HPg26_10j.out.frozen 0
  have z2_1 := HPg26_10j.out.cell 1 rfl
  have y2_1 := HPg26_10j.out.frozen 1
  have z2_2 := HPg26_10j.out.cell 2 rfl
  have y2_2 := HPg26_10j.out.frozen 2
  have z2_3 := HPg26_10j.out.cell 3 rfl
  have y2_3 := HPg26_10j.out.frozen 3
  have z2 := HPg26_10j.out.lt
  go_simp
  obtain ⟨v2, hV⟩ := nmz (World.setCell (World.setCell (World.setCell (World.setCell v ⟨g26_10, 0, none⟩ (.bool s12)) ⟨g26_10, 1, none⟩ (.slice A12 n12 c12)) ⟨g26_10, 2, none⟩ (.bool t12)) ⟨g26_10, 3, none⟩ (.slice B12 m12 d12))
  rw [hV]
  have HE2 := hJ (show sto v g26_10 0 [.bool s12, .slice A12 n12 c12, .bool t12, .slice B12 m12 d12] = v2 from hV)
  clear hV z2 z2_0 y2_0 z2_1 y2_1 z2_2 y2_2 z2_3 y2_3
  have HX2 := hJ (show Below w.heap.size w v2 by rw [← HE2.out]; exact below_sto HXj.out HGg26_10j.out _ _)
  have HZ2_0 := hJ (show PF v2 s12 A12 n12 c12 t12 B12 m12 d12 P11 Q11 by rw [← HE2.out]; exact PF.sto HZ6hr12j.out HPg26_10j.out rfl _ _)
  have HP2g26_10 := hJ (show BX 35 v2 g26_10 #[.bool s12, .slice A12 n12 c12, .bool t12, .slice B12 m12 d12] by rw [← HE2.out]; exact BX.put HPg26_10j.out _ _)
  clear hHeld
  refine hK.out _ _ (HS1.out _ HX2.out) (fun hHeld => ?_)
  clear hK K
  try simp only [PT]
  refine tq 12 ?_
  try simp only [PT]
  refine wpAnyH_done (by kernel_rfl) ?_ _
  clear hHeld
  have HL3 := hJ (show g26_10 < v2.heap.size from HP2g26_10.out.lt)
  have hv := vl_mul (vl_self HF1.out.1.1 HF1.out.2.1 HF1.out.2.2) (vl_self HF2.out.1.1 HF2.out.2.1 HF2.out.2.2) (by decide)
  obtain ⟨P13, hP⟩ := nmz (muP p1 q1 p2 q2)
  obtain ⟨Q13, hQ⟩ := nmz (muQ p1 q1 p2 q2)
  rw [hP, hQ] at hv
  have HCD13 := hJ hv.1
  have HVL13 := hJ (show Vl 4002 P13 Q13 (p1 * p2) (q1 * q2) from hv.2)
  have HNP13 := hJ hP
  have HNQ13 := hJ hQ
  clear hv hP hQ
  have HOXw1 := hJ (OwnR.new HOX.out HX2.out)
  have HS4 : Hid (∀ w', Below v2.heap.size v2 w' → (fun w' : World => w'.cell? ⟨gx, 4, none⟩ = some (.bool sx1) ∧ w'.cell? ⟨gx, 5, none⟩ = some (.slice Ax1 nx1 cx1) ∧ w'.cell? ⟨gx, 6, none⟩ = some (.bool tx1) ∧ w'.cell? ⟨gx, 7, none⟩ = some (.slice Bx1 mx1 dx1) ∧ w'.cell? ⟨gx, 8, none⟩ = some (.bool sx2) ∧ w'.cell? ⟨gx, 9, none⟩ = some (.slice Ax2 nx2 cx2) ∧ w'.cell? ⟨gx, 10, none⟩ = some (.bool tx2) ∧ w'.cell? ⟨gx, 11, none⟩ = some (.slice Bx2 mx2 dx2) ∧ Below v2.heap.size v2 w') w') := hJ (fun w' hb => ⟨(OwnR.new HOXw1.out hb).at 4 rfl, (OwnR.new HOXw1.out hb).at 5 rfl, (OwnR.new HOXw1.out hb).at 6 rfl, (OwnR.new HOXw1.out hb).at 7 rfl, (OwnR.new HOXw1.out hb).at 8 rfl, (OwnR.new HOXw1.out hb).at 9 rfl, (OwnR.new HOXw1.out hb).at 10 rfl, (OwnR.new HOXw1.out hb).at 11 rfl, hb⟩)
  have HPX1w1 := hJ (PF.new HPX1.out HX2.out)
  have HPX2w1 := hJ (PF.new HPX2.out HX2.out)
  go_wp2_with fail
  obtain ⟨v4, hv4⟩ := nmz (World.drew v2)
  have HX4 := hJ (show Below v2.heap.size v2 v4 by rw [← hv4]; exact (Below.refl _ _).drew)
  refine wp_region_held_drew (S := (fun w' : World => w'.cell? ⟨gx, 4, none⟩ = some (.bool sx1) ∧ w'.cell? ⟨gx, 5, none⟩ = some (.slice Ax1 nx1 cx1) ∧ w'.cell? ⟨gx, 6, none⟩ = some (.bool tx1) ∧ w'.cell? ⟨gx, 7, none⟩ = some (.slice Bx1 mx1 dx1) ∧ w'.cell? ⟨gx, 8, none⟩ = some (.bool sx2) ∧ w'.cell? ⟨gx, 9, none⟩ = some (.slice Ax2 nx2 cx2) ∧ w'.cell? ⟨gx, 10, none⟩ = some (.bool tx2) ∧ w'.cell? ⟨gx, 11, none⟩ = some (.slice Bx2 mx2 dx2) ∧ Below v2.heap.size v2 w')) (by kernel_rfl) ?_ (fun hHeld => ?_)
  ·rw [hv4]
   exact HS4.out _ HX4.out
  rw [hv4] at hHeld ⊢
  clear hv4
  refine tq 0 ?_
  try simp only [PT]
  refine tq 1 ?_
  try simp only [PT]
  refine tq 2 ?_
  try simp only [PT]
  refine tq 3 ?_
  try simp only [PT]
  refine tq 4 ?_
  try simp only [PT]
  refine tq 5 ?_
  try simp only [PT]
  refine wpAnyH_name (fun F hF a0 ha0 L0 hL0 => ?_)
  have J27_6_10 : ∀ s14 A14 n14 c14 t14 B14 m14 d14 g27_10 v, Hid (Below v2.heap.size v2 v) → Hid (PF v s14 A14 n14 c14 t14 B14 m14 d14 P13 Q13) → Hid (BX 35 v g27_10 #[.bool false, .slice none 0 0, .bool false, .slice none 0 0]) → Hid (v2.heap.size ≤ g27_10) → F 2 (Array.setIfInBounds (Array.setIfInBounds (Array.setIfInBounds (Array.setIfInBounds (Array.setIfInBounds L0 6 true) 10 true) 7 true) 8 true) 9 true) (Act.put (Act.put (Act.put (Act.put (Act.put a0 (some 191) (.tuple #[.agg #[.bool s14, .slice A14 n14 c14, .bool t14, .slice B14 m14 d14], .int .i64 0])) (some 17) (.pointer (some ⟨g27_10, 0, none⟩))) (some 184) (.tuple #[.agg #[.bool s14, .slice A14 n14 c14, .bool t14, .slice B14 m14 d14], .int .i64 0])) (some 192) (.agg #[.bool s14, .slice A14 n14 c14, .bool t14, .slice B14 m14 d14])) (some 193) (.int .i64 0)) v := by
   intro s14 A14 n14 c14 t14 B14 m14 d14 g27_10 v HXj HZ6hr14j HPg27_10j HGg27_10j
   subst hF ha0 hL0
   simp only [PT] at  ⊢
   have hHeld := HS4.out _ HXj.out
   refine wpAnyH_ready (rs := [11]) (by kernel_rfl) (by simp) ?_
   refine .cons rfl (fun K hK => ?_) .nil
   have z5_0 := HPg27_10j.out.cell 0 rfl
   have y5_0 := HPg27_10j.out.frozen 0
   have z5_1 := HPg27_10j.out.cell 1 rfl
   have y5_1 := HPg27_10j.out.frozen 1
   have z5_2 := HPg27_10j.out.cell 2 rfl
   have y5_2 := HPg27_10j.out.frozen 2
   have z5_3 := HPg27_10j.out.cell 3 rfl
   have y5_3 := HPg27_10j.out.frozen 3
   have z5 := HPg27_10j.out.lt
   go_simp
   obtain ⟨v5, hV⟩ := nmz (World.setCell (World.setCell (World.setCell (World.setCell v ⟨g27_10, 0, none⟩ (.bool s14)) ⟨g27_10, 1, none⟩ (.slice A14 n14 c14)) ⟨g27_10, 2, none⟩ (.bool t14)) ⟨g27_10, 3, none⟩ (.slice B14 m14 d14))
   rw [hV]
   have HE5 := hJ (show sto v g27_10 0 [.bool s14, .slice A14 n14 c14, .bool t14, .slice B14 m14 d14] = v5 from hV)
   clear hV z5 z5_0 y5_0 z5_1 y5_1 z5_2 y5_2 z5_3 y5_3
   have HX5 := hJ (show Below v2.heap.size v2 v5 by rw [← HE5.out]; exact below_sto HXj.out HGg27_10j.out _ _)
   have HZ5_0 := hJ (show PF v5 s14 A14 n14 c14 t14 B14 m14 d14 P13 Q13 by rw [← HE5.out]; exact PF.sto HZ6hr14j.out HPg27_10j.out rfl _ _)
   have HP5g27_10 := hJ (show BX 35 v5 g27_10 #[.bool s14, .slice A14 n14 c14, .bool t14, .slice B14 m14 d14] by rw [← HE5.out]; exact BX.put HPg27_10j.out _ _)
   clear hHeld
   refine hK.out _ _ (HS4.out _ HX5.out) (fun hHeld => ?_)
   clear hK K
   try simp only [PT]
   refine tq 12 ?_
   try simp only [PT]
   refine wpAnyH_done (by kernel_rfl) ?_ _
   clear hHeld
   have HL6 := hJ (show g27_10 < v5.heap.size from HP5g27_10.out.lt)
   have HKM15 := hJ (show cmpI (P11 * Q13) (P13 * Q11) = cz by rw [mul_keeps HF0.out.1.1.1 HF1.out.1.1.1 HF2.out.1.1.1 HVL11.out HVL13.out, HCA.out, HCG.out]; exact HCZ.out)
   have HP2g26_10w2 := hJ (BX.new HP2g26_10.out HX5.out)
   have HOXw2 := hJ (OwnR.new HOXw1.out HX5.out)
   have HS7 : Hid (∀ w', Below v5.heap.size v5 w' → (fun w' : World => w'.cell? ⟨g26_10, 0, none⟩ = some (.bool s12) ∧ w'.cell? ⟨g26_10, 1, none⟩ = some (.slice A12 n12 c12) ∧ w'.cell? ⟨g26_10, 2, none⟩ = some (.bool t12) ∧ w'.cell? ⟨g26_10, 3, none⟩ = some (.slice B12 m12 d12) ∧ w'.cell? ⟨g27_10, 0, none⟩ = some (.bool s14) ∧ w'.cell? ⟨g27_10, 1, none⟩ = some (.slice A14 n14 c14) ∧ w'.cell? ⟨g27_10, 2, none⟩ = some (.bool t14) ∧ w'.cell? ⟨g27_10, 3, none⟩ = some (.slice B14 m14 d14) ∧ w'.cell? ⟨gx, 8, none⟩ = some (.bool sx2) ∧ w'.cell? ⟨gx, 9, none⟩ = some (.slice Ax2 nx2 cx2) ∧ w'.cell? ⟨gx, 10, none⟩ = some (.bool tx2) ∧ w'.cell? ⟨gx, 11, none⟩ = some (.slice Bx2 mx2 dx2) ∧ Below v5.heap.size v5 w') w') := hJ (fun w' hb => ⟨(BX.new HP2g26_10w2.out hb).cell 0 rfl, (BX.new HP2g26_10w2.out hb).cell 1 rfl, (BX.new HP2g26_10w2.out hb).cell 2 rfl, (BX.new HP2g26_10w2.out hb).cell 3 rfl, (BX.new HP5g27_10.out hb).cell 0 rfl, (BX.new HP5g27_10.out hb).cell 1 rfl, (BX.new HP5g27_10.out hb).cell 2 rfl, (BX.new HP5g27_10.out hb).cell 3 rfl, (OwnR.new HOXw2.out hb).at 8 rfl, (OwnR.new HOXw2.out hb).at 9 rfl, (OwnR.new HOXw2.out hb).at 10 rfl, (OwnR.new HOXw2.out hb).at 11 rfl, hb⟩)
   have HZ2_0w2 := hJ (PF.new HZ2_0.out HX5.out)
   have HPX2w2 := hJ (PF.new HPX2w1.out HX5.out)
   go_wp2_with fail
   obtain ⟨v7, hv7⟩ := nmz (World.drew v5)
   have HX7 := hJ (show Below v5.heap.size v5 v7 by rw [← hv7]; exact (Below.refl _ _).drew)
   refine wp_region_held_drew (S := (fun w' : World => w'.cell? ⟨g26_10, 0, none⟩ = some (.bool s12) ∧ w'.cell? ⟨g26_10, 1, none⟩ = some (.slice A12 n12 c12) ∧ w'.cell? ⟨g26_10, 2, none⟩ = some (.bool t12) ∧ w'.cell? ⟨g26_10, 3, none⟩ = some (.slice B12 m12 d12) ∧ w'.cell? ⟨g27_10, 0, none⟩ = some (.bool s14) ∧ w'.cell? ⟨g27_10, 1, none⟩ = some (.slice A14 n14 c14) ∧ w'.cell? ⟨g27_10, 2, none⟩ = some (.bool t14) ∧ w'.cell? ⟨g27_10, 3, none⟩ = some (.slice B14 m14 d14) ∧ w'.cell? ⟨gx, 8, none⟩ = some (.bool sx2) ∧ w'.cell? ⟨gx, 9, none⟩ = some (.slice Ax2 nx2 cx2) ∧ w'.cell? ⟨gx, 10, none⟩ = some (.bool tx2) ∧ w'.cell? ⟨gx, 11, none⟩ = some (.slice Bx2 mx2 dx2) ∧ Below v5.heap.size v5 w')) (by kernel_rfl) ?_ (fun hHeld => ?_)
   ·rw [hv7]
    exact HS7.out _ HX7.out
   rw [hv7] at hHeld ⊢
   clear hv7
   refine tq 0 ?_
   try simp only [PT]
   refine tq 1 ?_
   try simp only [PT]
   refine tq 2 ?_
   try simp only [PT]
   refine tq 3 ?_
   try simp only [PT]
   refine tq 4 ?_
   try simp only [PT]
   refine tq 5 ?_
   try simp only [PT]
   refine tq 6 ?_
   try simp only [PT]
   refine tq 7 ?_
   try simp only [PT]
   refine tq 8 ?_
   try simp only [PT]
   refine tq 10 ?_
   try simp only [PT]
   refine tq 11 ?_
   try simp only [PT]
   refine tq 12 ?_
   try simp only [PT]
   refine tq 13 ?_
   try simp only [PT]
   refine wpAnyH_ready (rs := [9]) (by kernel_rfl) (by simp) ?_
   refine .cons rfl (fun K hK => ?_) .nil
   go_simp
   go_at_call 46
   refine (fcompare_any P11 Q11 P13 Q13 s12 t12 s14 t14 A12 B12 A14 B14 n12 c12 m12 d12 n14 c14 m14 d14 v7 (PF.new HZ2_0w2.out HX7.out) (PF.new HZ5_0.out HX7.out) (vl_fr HVL11.out (by decide)).1.1 (vl_fr HVL13.out (by decide)).1.1 (vl_fr HVL11.out (by decide)).2.1 (vl_fr HVL11.out (by decide)).2.2 (vl_fr HVL13.out (by decide)).2.1 (vl_fr HVL13.out (by decide)).2.2).mono ?_
   rw [HKM15.out]
   rintro e v8 ⟨rfl, hb⟩
   have HB8 := hJ hb
   clear hb
   go_wp2_with fail
   have HX8 := hJ (bt HX7.out HB8.out)
   clear hHeld
   refine hK.out _ _ (HS7.out _ HX8.out) (fun hHeld => ?_)
   clear hK K
   try simp only [PT]
   refine wpAnyH_ready (rs := [14]) (by kernel_rfl) (by simp) ?_
   refine .cons rfl (fun K hK => ?_) .nil
   go_simp
   go_at_call 44
   refine (fsign_any p2 q2 sx2 tx2 Ax2 Bx2 nx2 cx2 mx2 dx2 v8 (PF.new HPX2w2.out HX8.out) HF2.out.1.2.1).mono ?_
   rw [HCG.out]
   rintro e v9 ⟨rfl, hb⟩
   have HB9 := hJ hb
   clear hb
   go_wp2_with fail
   have HX9 := hJ (bt HX8.out HB9.out)
   clear hHeld
   refine hK.out _ _ (HS7.out _ HX9.out) (fun hHeld => ?_)
   clear hK K
   try simp only [PT]
   refine tk 15 (.int .i64 cz) ?_ ?_
   ·intro w hSw
    (try dsimp only at hSw)
    go_simp
    rw [HZW.out]
   try simp only [PT]
   refine tq 16 ?_
   try simp only [PT]
   refine tq 17 ?_
   try simp only [PT]
   refine wpAnyH_done (by kernel_rfl) ?_ _
   clear hHeld
   have HBS18 := hJ (show (p0 + p1).natAbs < lim from B2.lim (B2.add (vl_self HF0.out.1.1 HF0.out.2.1 HF0.out.2.2).2.1 (vl_self HF1.out.1.1 HF1.out.2.1 HF1.out.2.2).2.1) (by decide))
   have HIN18 := hJ (in_lim HBS18.out)
   have HOXw3 := hJ (OwnR.new HOXw2.out HX9.out)
   have HS10 : Hid (∀ w', Below v9.heap.size v9 w' → (fun w' : World => w'.cell? ⟨gx, 0, none⟩ = some (.bool sx0) ∧ w'.cell? ⟨gx, 1, none⟩ = some (.slice Ax0 nx0 cx0) ∧ w'.cell? ⟨gx, 2, none⟩ = some (.bool tx0) ∧ w'.cell? ⟨gx, 3, none⟩ = some (.slice Bx0 mx0 dx0) ∧ w'.cell? ⟨gx, 4, none⟩ = some (.bool sx1) ∧ w'.cell? ⟨gx, 5, none⟩ = some (.slice Ax1 nx1 cx1) ∧ w'.cell? ⟨gx, 6, none⟩ = some (.bool tx1) ∧ w'.cell? ⟨gx, 7, none⟩ = some (.slice Bx1 mx1 dx1) ∧ Below v9.heap.size v9 w') w') := hJ (fun w' hb => ⟨(OwnR.new HOXw3.out hb).at 0 rfl, (OwnR.new HOXw3.out hb).at 1 rfl, (OwnR.new HOXw3.out hb).at 2 rfl, (OwnR.new HOXw3.out hb).at 3 rfl, (OwnR.new HOXw3.out hb).at 4 rfl, (OwnR.new HOXw3.out hb).at 5 rfl, (OwnR.new HOXw3.out hb).at 6 rfl, (OwnR.new HOXw3.out hb).at 7 rfl, hb⟩)
   have HC0_3 := hJ (bt (bt HX2.out HX5.out) HX9.out)
   have HPX0w3 := hJ (PF.new HPX0.out HC0_3.out)
   have HC1_3 := hJ (bt HX5.out HX9.out)
   have HPX1w3 := hJ (PF.new HPX1w1.out HC1_3.out)
   go_wp2_with fail
   obtain ⟨v10, hv10⟩ := nmz (World.drew v9)
   have HX10 := hJ (show Below v9.heap.size v9 v10 by rw [← hv10]; exact (Below.refl _ _).drew)
   refine wp_region_held_drew (S := (fun w' : World => w'.cell? ⟨gx, 0, none⟩ = some (.bool sx0) ∧ w'.cell? ⟨gx, 1, none⟩ = some (.slice Ax0 nx0 cx0) ∧ w'.cell? ⟨gx, 2, none⟩ = some (.bool tx0) ∧ w'.cell? ⟨gx, 3, none⟩ = some (.slice Bx0 mx0 dx0) ∧ w'.cell? ⟨gx, 4, none⟩ = some (.bool sx1) ∧ w'.cell? ⟨gx, 5, none⟩ = some (.slice Ax1 nx1 cx1) ∧ w'.cell? ⟨gx, 6, none⟩ = some (.bool tx1) ∧ w'.cell? ⟨gx, 7, none⟩ = some (.slice Bx1 mx1 dx1) ∧ Below v9.heap.size v9 w')) (by kernel_rfl) ?_ (fun hHeld => ?_)
   ·rw [hv10]
    exact HS10.out _ HX10.out
   rw [hv10] at hHeld ⊢
   clear hv10
   refine tq 0 ?_
   try simp only [PT]
   refine tq 1 ?_
   try simp only [PT]
   refine tq 2 ?_
   try simp only [PT]
   refine tq 4 ?_
   try simp only [PT]
   refine tq 5 ?_
   try simp only [PT]
   refine tq 6 ?_
   try simp only [PT]
   refine wpAnyH_name (fun F hF a0 ha0 L0 hL0 => ?_)
   have J30_3_7_8_12 : ∀ s16 A16 n16 c16 s17 A17 n17 c17 s19 A19 n19 c19 g30_12 v, Hid (Below v9.heap.size v9 v) → Hid (PI v s16 A16 n16 c16 p0) → Hid (PI v s17 A17 n17 c17 p1) → Hid (PI v s19 A19 n19 c19 ((p0 + p1))) → Hid (BX 33 v g30_12 #[.bool false, .slice none 0 0]) → Hid (v9.heap.size ≤ g30_12) → F 2 (Array.setIfInBounds (Array.setIfInBounds (Array.setIfInBounds (Array.setIfInBounds (Array.setIfInBounds (Array.setIfInBounds (Array.setIfInBounds L0 3 true) 7 true) 8 true) 12 true) 9 true) 10 true) 11 true) (Act.put (Act.put (Act.put (Act.put (Act.put (Act.put (Act.put a0 (some 216) (.agg #[.bool s16, .slice A16 n16 c16])) (some 220) (.agg #[.bool s17, .slice A17 n17 c17])) (some 221) (.tuple #[.agg #[.bool s19, .slice A19 n19 c19], .int .i64 0])) (some 19) (.pointer (some ⟨g30_12, 0, none⟩))) (some 212) (.tuple #[.agg #[.bool s19, .slice A19 n19 c19], .int .i64 0])) (some 222) (.agg #[.bool s19, .slice A19 n19 c19])) (some 223) (.int .i64 0)) v := by
    intro s16 A16 n16 c16 s17 A17 n17 c17 s19 A19 n19 c19 g30_12 v HXj HZ3hr16j HZ7hr17j HZ8hr19j HPg30_12j HGg30_12j
    subst hF ha0 hL0
    simp only [PT] at  ⊢
    have hHeld := HS10.out _ HXj.out
    refine wpAnyH_ready (rs := [13]) (by kernel_rfl) (by simp) ?_
    refine .cons rfl (fun K hK => ?_) .nil
    have z11_0 := HPg30_12j.out.cell 0 rfl
    have y11_0 := HPg30_12j.out.frozen 0
    have z11_1 := HPg30_12j.out.cell 1 rfl
    have y11_1 := HPg30_12j.out.frozen 1
    have z11 := HPg30_12j.out.lt
    go_simp
    obtain ⟨v11, hV⟩ := nmz (World.setCell (World.setCell v ⟨g30_12, 0, none⟩ (.bool s19)) ⟨g30_12, 1, none⟩ (.slice A19 n19 c19))
    rw [hV]
    have HE11 := hJ (show sto v g30_12 0 [.bool s19, .slice A19 n19 c19] = v11 from hV)
    clear hV z11 z11_0 y11_0 z11_1 y11_1
    have HX11 := hJ (show Below v9.heap.size v9 v11 by rw [← HE11.out]; exact below_sto HXj.out HGg30_12j.out _ _)
    have HZ11_0 := hJ (show PI v11 s16 A16 n16 c16 p0 by rw [← HE11.out]; exact PIo.sto HZ3hr16j.out HPg30_12j.out rfl _ _)
    have HZ11_1 := hJ (show PI v11 s17 A17 n17 c17 p1 by rw [← HE11.out]; exact PIo.sto HZ7hr17j.out HPg30_12j.out rfl _ _)
    have HZ11_2 := hJ (show PI v11 s19 A19 n19 c19 ((p0 + p1)) by rw [← HE11.out]; exact PIo.sto HZ8hr19j.out HPg30_12j.out rfl _ _)
    have HP11g30_12 := hJ (show BX 33 v11 g30_12 #[.bool s19, .slice A19 n19 c19] by rw [← HE11.out]; exact BX.put HPg30_12j.out _ _)
    clear hHeld
    refine hK.out _ _ (HS10.out _ HX11.out) (fun hHeld => ?_)
    clear hK K
    try simp only [PT]
    refine tq 14 ?_
    try simp only [PT]
    refine wpAnyH_done (by kernel_rfl) ?_ _
    clear hHeld
    have HL12 := hJ (show g30_12 < v11.heap.size from HP11g30_12.out.lt)
    have HBS22 := hJ (show (q0 + q1).natAbs < lim from B2.lim (B2.add (vl_self HF0.out.1.1 HF0.out.2.1 HF0.out.2.2).2.2.1 (vl_self HF1.out.1.1 HF1.out.2.1 HF1.out.2.2).2.2.1) (by decide))
    have HIN22 := hJ (in_lim HBS22.out)
    have HOXw4 := hJ (OwnR.new HOXw3.out HX11.out)
    have HS13 : Hid (∀ w', Below v11.heap.size v11 w' → (fun w' : World => w'.cell? ⟨gx, 0, none⟩ = some (.bool sx0) ∧ w'.cell? ⟨gx, 1, none⟩ = some (.slice Ax0 nx0 cx0) ∧ w'.cell? ⟨gx, 2, none⟩ = some (.bool tx0) ∧ w'.cell? ⟨gx, 3, none⟩ = some (.slice Bx0 mx0 dx0) ∧ w'.cell? ⟨gx, 4, none⟩ = some (.bool sx1) ∧ w'.cell? ⟨gx, 5, none⟩ = some (.slice Ax1 nx1 cx1) ∧ w'.cell? ⟨gx, 6, none⟩ = some (.bool tx1) ∧ w'.cell? ⟨gx, 7, none⟩ = some (.slice Bx1 mx1 dx1) ∧ Below v11.heap.size v11 w') w') := hJ (fun w' hb => ⟨(OwnR.new HOXw4.out hb).at 0 rfl, (OwnR.new HOXw4.out hb).at 1 rfl, (OwnR.new HOXw4.out hb).at 2 rfl, (OwnR.new HOXw4.out hb).at 3 rfl, (OwnR.new HOXw4.out hb).at 4 rfl, (OwnR.new HOXw4.out hb).at 5 rfl, (OwnR.new HOXw4.out hb).at 6 rfl, (OwnR.new HOXw4.out hb).at 7 rfl, hb⟩)
    have HPX0w4 := hJ (PF.new HPX0w3.out HX11.out)
    have HPX1w4 := hJ (PF.new HPX1w3.out HX11.out)
    go_wp2_with fail
    obtain ⟨v13, hv13⟩ := nmz (World.drew v11)
    have HX13 := hJ (show Below v11.heap.size v11 v13 by rw [← hv13]; exact (Below.refl _ _).drew)
    refine wp_region_held_drew (S := (fun w' : World => w'.cell? ⟨gx, 0, none⟩ = some (.bool sx0) ∧ w'.cell? ⟨gx, 1, none⟩ = some (.slice Ax0 nx0 cx0) ∧ w'.cell? ⟨gx, 2, none⟩ = some (.bool tx0) ∧ w'.cell? ⟨gx, 3, none⟩ = some (.slice Bx0 mx0 dx0) ∧ w'.cell? ⟨gx, 4, none⟩ = some (.bool sx1) ∧ w'.cell? ⟨gx, 5, none⟩ = some (.slice Ax1 nx1 cx1) ∧ w'.cell? ⟨gx, 6, none⟩ = some (.bool tx1) ∧ w'.cell? ⟨gx, 7, none⟩ = some (.slice Bx1 mx1 dx1) ∧ Below v11.heap.size v11 w')) (by kernel_rfl) ?_ (fun hHeld => ?_)
    ·rw [hv13]
     exact HS13.out _ HX13.out
    rw [hv13] at hHeld ⊢
    clear hv13
    refine tq 0 ?_
    try simp only [PT]
    refine tq 1 ?_
    try simp only [PT]
    refine tq 2 ?_
    try simp only [PT]
    refine tq 4 ?_
    try simp only [PT]
    refine tq 5 ?_
    try simp only [PT]
    refine tq 6 ?_
    try simp only [PT]
    refine wpAnyH_name (fun F hF a0 ha0 L0 hL0 => ?_)
    have J31_3_7_8_12 : ∀ s20 A20 n20 c20 s21 A21 n21 c21 s23 A23 n23 c23 g31_12 v, Hid (Below v11.heap.size v11 v) → Hid (PI v s20 A20 n20 c20 q0) → Hid (PI v s21 A21 n21 c21 q1) → Hid (PI v s23 A23 n23 c23 ((q0 + q1))) → Hid (BX 33 v g31_12 #[.bool false, .slice none 0 0]) → Hid (v11.heap.size ≤ g31_12) → F 2 (Array.setIfInBounds (Array.setIfInBounds (Array.setIfInBounds (Array.setIfInBounds (Array.setIfInBounds (Array.setIfInBounds (Array.setIfInBounds L0 3 true) 7 true) 8 true) 12 true) 9 true) 10 true) 11 true) (Act.put (Act.put (Act.put (Act.put (Act.put (Act.put (Act.put a0 (some 228) (.agg #[.bool s20, .slice A20 n20 c20])) (some 232) (.agg #[.bool s21, .slice A21 n21 c21])) (some 233) (.tuple #[.agg #[.bool s23, .slice A23 n23 c23], .int .i64 0])) (some 21) (.pointer (some ⟨g31_12, 0, none⟩))) (some 224) (.tuple #[.agg #[.bool s23, .slice A23 n23 c23], .int .i64 0])) (some 234) (.agg #[.bool s23, .slice A23 n23 c23])) (some 235) (.int .i64 0)) v := by
     intro s20 A20 n20 c20 s21 A21 n21 c21 s23 A23 n23 c23 g31_12 v HXj HZ3hr20j HZ7hr21j HZ8hr23j HPg31_12j HGg31_12j
     subst hF ha0 hL0
     simp only [PT] at  ⊢
     have hHeld := HS13.out _ HXj.out
     refine wpAnyH_ready (rs := [13]) (by kernel_rfl) (by simp) ?_
     refine .cons rfl (fun K hK => ?_) .nil
     have z14_0 := HPg31_12j.out.cell 0 rfl
     have y14_0 := HPg31_12j.out.frozen 0
     have z14_1 := HPg31_12j.out.cell 1 rfl
     have y14_1 := HPg31_12j.out.frozen 1
     have z14 := HPg31_12j.out.lt
     go_simp
     obtain ⟨v14, hV⟩ := nmz (World.setCell (World.setCell v ⟨g31_12, 0, none⟩ (.bool s23)) ⟨g31_12, 1, none⟩ (.slice A23 n23 c23))
     rw [hV]
     have HE14 := hJ (show sto v g31_12 0 [.bool s23, .slice A23 n23 c23] = v14 from hV)
     clear hV z14 z14_0 y14_0 z14_1 y14_1
     have HX14 := hJ (show Below v11.heap.size v11 v14 by rw [← HE14.out]; exact below_sto HXj.out HGg31_12j.out _ _)
     have HZ14_0 := hJ (show PI v14 s20 A20 n20 c20 q0 by rw [← HE14.out]; exact PIo.sto HZ3hr20j.out HPg31_12j.out rfl _ _)
     have HZ14_1 := hJ (show PI v14 s21 A21 n21 c21 q1 by rw [← HE14.out]; exact PIo.sto HZ7hr21j.out HPg31_12j.out rfl _ _)
     have HZ14_2 := hJ (show PI v14 s23 A23 n23 c23 ((q0 + q1)) by rw [← HE14.out]; exact PIo.sto HZ8hr23j.out HPg31_12j.out rfl _ _)
     have HP14g31_12 := hJ (show BX 33 v14 g31_12 #[.bool s23, .slice A23 n23 c23] by rw [← HE14.out]; exact BX.put HPg31_12j.out _ _)
     clear hHeld
     refine hK.out _ _ (HS13.out _ HX14.out) (fun hHeld => ?_)
     clear hK K
     try simp only [PT]
     refine tq 14 ?_
     try simp only [PT]
     refine wpAnyH_done (by kernel_rfl) ?_ _
     clear hHeld
     have HL15 := hJ (show g31_12 < v14.heap.size from HP14g31_12.out.lt)
     have HP11g30_12w5 := hJ (BX.new HP11g30_12.out HX14.out)
     obtain ⟨cl16, cl17⟩ := HP11g30_12w5.out.c2 0 1 rfl rfl
     obtain ⟨cl18, cl19⟩ := HP14g31_12.out.c2 0 1 rfl rfl
     have HNZ24 := hJ (show (q0 + q1) ≠ 0 by have h1 := HF0.out.1.1.1; have h2 := HF1.out.1.1.1; omega)
     have HMC24 := hJ (show mkC (q0 + q1) = 0 from if_neg HNZ24.out)
     have HML := hJ (mk_low' (p0 + p1) (q0 + q1) HNZ24.out)
     obtain ⟨P25, hP25⟩ := nmz (mkP ((p0 + p1)) ((q0 + q1)))
     have HEP25 := hJ hP25
     clear hP25
     obtain ⟨Q26, hQ26⟩ := nmz (mkQ ((p0 + p1)) ((q0 + q1)))
     have HEQ26 := hJ hQ26
     clear hQ26
     obtain ⟨C27, hC27⟩ := nmz (mkC ((q0 + q1)))
     have HEC27 := hJ hC27
     clear hC27
     have HF28 := hJ (show Fr P25 Q26 by rw [← HEP25.out, ← HEQ26.out]; exact fr_mk HBS18.out HBS22.out)
     have HZ11_2w5 := hJ (PIo.new HZ11_2.out HX14.out)
     go_wp2_with fail
     clear cl16 cl17 cl18 cl19
     refine (fmake_any ((p0 + p1)) ((q0 + q1)) s19 s23 A19 A23 n19 c19 n23 c23 v14 HZ11_2w5.out HZ14_2.out HBS18.out HBS22.out).mono ?_
     rw [HEP25.out, HEQ26.out, HMC24.out]
     rintro e w20 ⟨s29, A29, n29, c29, t29, B29, m29, d29, rfl, hr29, hb⟩
     have HB20 := hJ hb
     have HR20hr29 := hJ hr29
     clear hb hr29
     by_cases hca0 : ca = 0
     ·subst hca0
      obtain ⟨x21, hx21⟩ := nmz (w20.alloc (.cells #[.bool s29, .slice A29 n29 c29, .bool t29, .slice B29 m29 d29] 35))
      have HB21 := hJ (show Below w20.heap.size w20 x21 by rw [← hx21]; exact ((Below.refl _ _).alloc (Nat.le_refl _) _))
      have HQ21x0 := hJ (show BX 35 x21 w20.heap.size #[.bool s29, .slice A29 n29 c29, .bool t29, .slice B29 m29 d29] by rw [← hx21]; exact (BX.at rfl))
      have HG21x0 := hJ (show w20.heap.size ≤ w20.heap.size by omega)
      have HL21x0 := hJ (show w20.heap.size < x21.heap.size from HQ21x0.out.lt)
      go_wp2_with fail
      clear hx21
      refine (l4lives_any x21).mono ?_
      rintro e w22 ⟨rfl, hb⟩
      have HB22 := hJ hb
      clear hb
      have HC0_8 := hJ (bt (bt (bt (bt (bt HC0_3.out HX11.out) HX14.out) HB20.out) HB21.out) HB22.out)
      go_wp2
      go_ret
      exact ⟨rfl, bt HBL.out HC0_8.out⟩
     ·have HCN := hJ hca0
      obtain ⟨x23, hx23⟩ := nmz (w20.alloc (.cells #[.bool s29, .slice A29 n29 c29, .bool t29, .slice B29 m29 d29] 35))
      have HB23 := hJ (show Below w20.heap.size w20 x23 by rw [← hx23]; exact ((Below.refl _ _).alloc (Nat.le_refl _) _))
      have HQ23x0 := hJ (show BX 35 x23 w20.heap.size #[.bool s29, .slice A29 n29 c29, .bool t29, .slice B29 m29 d29] by rw [← hx23]; exact (BX.at rfl))
      have HG23x0 := hJ (show w20.heap.size ≤ w20.heap.size by omega)
      have HL23x0 := hJ (show w20.heap.size < x23.heap.size from HQ23x0.out.lt)
      have HMD30 := hJ (show cmpI (p0 * Q26) (P25 * q0) = ca by rw [med_left HF0.out.1.1.1 HF1.out.1.1.1 (show Low P25 Q26 by rw [← HEP25.out, ← HEQ26.out]; exact HML.out.1) (show P25 * (q0 + q1) = (p0 + p1) * Q26 by rw [← HEP25.out, ← HEQ26.out]; exact HML.out.2)]; exact HCA.out)
      have HMD31 := hJ (show cmpI (P25 * q1) (p1 * Q26) = ca by rw [med_right HF0.out.1.1.1 HF1.out.1.1.1 (show Low P25 Q26 by rw [← HEP25.out, ← HEQ26.out]; exact HML.out.1) (show P25 * (q0 + q1) = (p0 + p1) * Q26 by rw [← HEP25.out, ← HEQ26.out]; exact HML.out.2)]; exact HCA.out)
      have HC4_7 := hJ (bt (bt HX14.out HB20.out) HB23.out)
      have HOXw7 := hJ (OwnR.new HOXw4.out HC4_7.out)
      have HS24 : Hid (∀ w', Below x23.heap.size x23 w' → (fun w' : World => w'.cell? ⟨gx, 0, none⟩ = some (.bool sx0) ∧ w'.cell? ⟨gx, 1, none⟩ = some (.slice Ax0 nx0 cx0) ∧ w'.cell? ⟨gx, 2, none⟩ = some (.bool tx0) ∧ w'.cell? ⟨gx, 3, none⟩ = some (.slice Bx0 mx0 dx0) ∧ w'.cell? ⟨w20.heap.size, 0, none⟩ = some (.bool s29) ∧ w'.cell? ⟨w20.heap.size, 1, none⟩ = some (.slice A29 n29 c29) ∧ w'.cell? ⟨w20.heap.size, 2, none⟩ = some (.bool t29) ∧ w'.cell? ⟨w20.heap.size, 3, none⟩ = some (.slice B29 m29 d29) ∧ w'.cell? ⟨gx, 4, none⟩ = some (.bool sx1) ∧ w'.cell? ⟨gx, 5, none⟩ = some (.slice Ax1 nx1 cx1) ∧ w'.cell? ⟨gx, 6, none⟩ = some (.bool tx1) ∧ w'.cell? ⟨gx, 7, none⟩ = some (.slice Bx1 mx1 dx1) ∧ Below x23.heap.size x23 w') w') := hJ (fun w' hb => ⟨(OwnR.new HOXw7.out hb).at 0 rfl, (OwnR.new HOXw7.out hb).at 1 rfl, (OwnR.new HOXw7.out hb).at 2 rfl, (OwnR.new HOXw7.out hb).at 3 rfl, (BX.new HQ23x0.out hb).cell 0 rfl, (BX.new HQ23x0.out hb).cell 1 rfl, (BX.new HQ23x0.out hb).cell 2 rfl, (BX.new HQ23x0.out hb).cell 3 rfl, (OwnR.new HOXw7.out hb).at 4 rfl, (OwnR.new HOXw7.out hb).at 5 rfl, (OwnR.new HOXw7.out hb).at 6 rfl, (OwnR.new HOXw7.out hb).at 7 rfl, hb⟩)
      have HPX0w7 := hJ (PF.new HPX0w4.out HC4_7.out)
      have HR20hr29w7 := hJ (PF.new HR20hr29.out HB23.out)
      have HPX1w7 := hJ (PF.new HPX1w4.out HC4_7.out)
      go_wp2_with fail
      clear hx23
      obtain ⟨v24, hv24⟩ := nmz (World.drew x23)
      have HX24 := hJ (show Below x23.heap.size x23 v24 by rw [← hv24]; exact (Below.refl _ _).drew)
      refine wp_region_held_drew (S := (fun w' : World => w'.cell? ⟨gx, 0, none⟩ = some (.bool sx0) ∧ w'.cell? ⟨gx, 1, none⟩ = some (.slice Ax0 nx0 cx0) ∧ w'.cell? ⟨gx, 2, none⟩ = some (.bool tx0) ∧ w'.cell? ⟨gx, 3, none⟩ = some (.slice Bx0 mx0 dx0) ∧ w'.cell? ⟨w20.heap.size, 0, none⟩ = some (.bool s29) ∧ w'.cell? ⟨w20.heap.size, 1, none⟩ = some (.slice A29 n29 c29) ∧ w'.cell? ⟨w20.heap.size, 2, none⟩ = some (.bool t29) ∧ w'.cell? ⟨w20.heap.size, 3, none⟩ = some (.slice B29 m29 d29) ∧ w'.cell? ⟨gx, 4, none⟩ = some (.bool sx1) ∧ w'.cell? ⟨gx, 5, none⟩ = some (.slice Ax1 nx1 cx1) ∧ w'.cell? ⟨gx, 6, none⟩ = some (.bool tx1) ∧ w'.cell? ⟨gx, 7, none⟩ = some (.slice Bx1 mx1 dx1) ∧ Below x23.heap.size x23 w')) (by kernel_rfl) ?_ (fun hHeld => ?_)
      ·rw [hv24]
       exact HS24.out _ HX24.out
      rw [hv24] at hHeld ⊢
      clear hv24
      refine tq 0 ?_
      try simp only [PT]
      refine tq 1 ?_
      try simp only [PT]
      refine tq 2 ?_
      try simp only [PT]
      refine tq 3 ?_
      try simp only [PT]
      refine tq 5 ?_
      try simp only [PT]
      refine wpAnyH_ready (rs := [4]) (by kernel_rfl) (by simp) ?_
      refine .cons rfl (fun K hK => ?_) .nil
      go_simp
      go_at_call 46
      refine (fcompare_any p0 q0 P25 Q26 sx0 tx0 s29 t29 Ax0 Bx0 A29 B29 nx0 cx0 mx0 dx0 n29 c29 m29 d29 v24 (PF.new HPX0w7.out HX24.out) (PF.new HR20hr29w7.out HX24.out) HF0.out.1.1.1 HF28.out.1.1 HF0.out.1.2.1 HF0.out.1.2.2 HF28.out.2.1 HF28.out.2.2).mono ?_
      rw [HMD30.out]
      rintro e v25 ⟨rfl, hb⟩
      have HB25 := hJ hb
      clear hb
      go_wp2_with fail
      have HX25 := hJ (bt HX24.out HB25.out)
      clear hHeld
      refine hK.out _ _ (HS24.out _ HX25.out) (fun hHeld => ?_)
      clear hK K
      try simp only [PT]
      refine tq 6 ?_
      try simp only [PT]
      refine tq 7 ?_
      try simp only [PT]
      refine tq 8 ?_
      try simp only [PT]
      refine tq 9 ?_
      try simp only [PT]
      refine tq 10 ?_
      try simp only [PT]
      refine tq 11 ?_
      try simp only [PT]
      refine tq 13 ?_
      try simp only [PT]
      refine wpAnyH_ready (rs := [12]) (by kernel_rfl) (by simp) ?_
      refine .cons rfl (fun K hK => ?_) .nil
      go_simp
      go_at_call 46
      refine (fcompare_any P25 Q26 p1 q1 s29 t29 sx1 tx1 A29 B29 Ax1 Bx1 n29 c29 m29 d29 nx1 cx1 mx1 dx1 v25 (PF.new HR20hr29w7.out HX25.out) (PF.new HPX1w7.out HX25.out) HF28.out.1.1 HF1.out.1.1.1 HF28.out.2.1 HF28.out.2.2 HF1.out.1.2.1 HF1.out.1.2.2).mono ?_
      rw [HMD31.out]
      rintro e v26 ⟨rfl, hb⟩
      have HB26 := hJ hb
      clear hb
      go_wp2_with fail
      have HX26 := hJ (bt HX25.out HB26.out)
      clear hHeld
      refine hK.out _ _ (HS24.out _ HX26.out) (fun hHeld => ?_)
      clear hK K
      try simp only [PT]
      refine tq 14 ?_
      try simp only [PT]
      refine tq 15 ?_
      try simp only [PT]
      refine tq 16 ?_
      try simp only [PT]
      refine wpAnyH_ready (rs := [17]) (by kernel_rfl) (by simp) ?_
      refine .cons rfl (fun K hK => ?_) .nil
      go_simp
      go_at_call 29
      refine (l4lives_any v26).mono ?_
      rintro e v27 ⟨rfl, hb⟩
      have HB27 := hJ hb
      clear hb
      go_wp2_with fail
      have HX27 := hJ (bt HX26.out HB27.out)
      clear hHeld
      refine hK.out _ _ (HS24.out _ HX27.out) (fun hHeld => ?_)
      clear hK K
      try simp only [PT]
      refine tq 18 ?_
      try simp only [PT]
      refine tq 19 ?_
      try simp only [PT]
      refine wpAnyH_done (by kernel_rfl) ?_ _
      clear hHeld
      have HC0_8 := hJ (bt (bt (bt (bt (bt HC0_3.out HX11.out) HX14.out) HB20.out) HB23.out) HX27.out)
      go_wp2
      go_ret
      exact ⟨rfl, bt HBL.out HC0_8.out⟩
    have J31_3_7_8 : ∀ s20 A20 n20 c20 s21 A21 n21 c21 s23 A23 n23 c23 v, Hid (Below v11.heap.size v11 v) → Hid (PI v s20 A20 n20 c20 q0) → Hid (PI v s21 A21 n21 c21 q1) → Hid (PI v s23 A23 n23 c23 ((q0 + q1))) → F 3 (Array.setIfInBounds (Array.setIfInBounds (Array.setIfInBounds (Array.setIfInBounds (Array.setIfInBounds (Array.setIfInBounds L0 3 true) 7 true) 8 true) 9 true) 10 true) 11 true) (Act.put (Act.put (Act.put (Act.put (Act.put (Act.put a0 (some 228) (.agg #[.bool s20, .slice A20 n20 c20])) (some 232) (.agg #[.bool s21, .slice A21 n21 c21])) (some 233) (.tuple #[.agg #[.bool s23, .slice A23 n23 c23], .int .i64 0])) (some 224) (.tuple #[.agg #[.bool s23, .slice A23 n23 c23], .int .i64 0])) (some 234) (.agg #[.bool s23, .slice A23 n23 c23])) (some 235) (.int .i64 0)) v := by
     intro s20 A20 n20 c20 s21 A21 n21 c21 s23 A23 n23 c23 v HXj HZ3hr20j HZ7hr21j HZ8hr23j
     subst hF ha0 hL0
     simp only [PT] at  ⊢
     have hHeld := HS13.out _ HXj.out
     refine wpAnyH_ready (rs := [12]) (by kernel_rfl) (by simp) ?_
     refine .cons rfl (fun K hK => ?_) .nil
     go_simp
     have HB28 := hJ ((Below.refl v.heap.size v).alloc (Nat.le_refl _) (.cells #[.bool false, .slice none 0 0] 33))
     have HP28 := hJ (BX.lit v 33 #[.bool false, .slice none 0 0])
     obtain ⟨v28, hV⟩ := nmz (World.alloc v (.cells #[.bool false, .slice none 0 0] 33))
     obtain ⟨g31_12, hg⟩ := nmz (v.heap.size)
     rw [hV] at HB28 HP28 ⊢
     rw [hg] at HP28 ⊢
     have HG28 := hJ (show v11.heap.size ≤ g31_12 by rw [← hg]; exact HXj.out.size)
     clear hV hg
     have HX28 := hJ (bt HXj.out HB28.out)
     have HZ28_0 := hJ (PIo.new HZ3hr20j.out HB28.out)
     have HZ28_1 := hJ (PIo.new HZ7hr21j.out HB28.out)
     have HZ28_2 := hJ (PIo.new HZ8hr23j.out HB28.out)
     clear hHeld
     refine hK.out _ _ (HS13.out _ HX28.out) (fun hHeld => ?_)
     clear hK K
     try simp only [PT]
     exact wpAnyH_cast2 (by kernel_rfl) (by kernel_rfl) (J31_3_7_8_12 s20 A20 n20 c20 s21 A21 n21 c21 s23 A23 n23 c23 g31_12 v28 HX28 HZ28_0 HZ28_1 HZ28_2 HP28 HG28)
    have J31_3_7_12 : ∀ s20 A20 n20 c20 s21 A21 n21 c21 g31_12 v, Hid (Below v11.heap.size v11 v) → Hid (PI v s20 A20 n20 c20 q0) → Hid (PI v s21 A21 n21 c21 q1) → Hid (BX 33 v g31_12 #[.bool false, .slice none 0 0]) → Hid (v11.heap.size ≤ g31_12) → F 6 (Array.setIfInBounds (Array.setIfInBounds (Array.setIfInBounds L0 3 true) 7 true) 12 true) (Act.put (Act.put (Act.put a0 (some 228) (.agg #[.bool s20, .slice A20 n20 c20])) (some 232) (.agg #[.bool s21, .slice A21 n21 c21])) (some 21) (.pointer (some ⟨g31_12, 0, none⟩))) v := by
     intro s20 A20 n20 c20 s21 A21 n21 c21 g31_12 v HXj HZ3hr20j HZ7hr21j HPg31_12j HGg31_12j
     subst hF ha0 hL0
     simp only [PT] at  ⊢
     have hHeld := HS13.out _ HXj.out
     refine wpAnyH_ready (rs := [8]) (by kernel_rfl) (by simp) ?_
     refine .cons rfl (fun K hK => ?_) .nil
     go_simp
     go_at_call 49
     refine (padd_any q0 q1 s20 s21 A20 A21 n20 c20 n21 c21 v HZ3hr20j.out HZ7hr21j.out (Nat.le_trans (plim HZ3hr20j.out HF0.out.1.2.2) (by decide)) (Nat.le_trans (plim HZ7hr21j.out HF1.out.1.2.2) (by decide)) HF0.out.1.2.2 HF1.out.1.2.2).mono ?_
     rw [HIN22.out.1, HIN22.out.2]
     rintro e v29 ⟨s23, A23, n23, c23, rfl, hr23, hb⟩
     have HB29 := hJ hb
     have HR29hr23 := hJ hr23
     clear hb hr23
     go_wp2_with fail
     have HX29 := hJ (bt HXj.out HB29.out)
     have HZ29_0 := hJ (PIo.new HZ3hr20j.out HB29.out)
     have HZ29_1 := hJ (PIo.new HZ7hr21j.out HB29.out)
     have HP29g31_12 := hJ (BX.new HPg31_12j.out HB29.out)
     clear hHeld
     refine hK.out _ _ (HS13.out _ HX29.out) (fun hHeld => ?_)
     clear hK K
     try simp only [PT]
     refine tq 9 ?_
     try simp only [PT]
     refine tq 10 ?_
     try simp only [PT]
     refine tq 11 ?_
     try simp only [PT]
     exact wpAnyH_cast2 (by kernel_rfl) (by kernel_rfl) (J31_3_7_8_12 s20 A20 n20 c20 s21 A21 n21 c21 s23 A23 n23 c23 g31_12 v29 HX29 HZ29_0 HZ29_1 HR29hr23 HP29g31_12 HGg31_12j)
    have J31_3_7 : ∀ s20 A20 n20 c20 s21 A21 n21 c21 v, Hid (Below v11.heap.size v11 v) → Hid (PI v s20 A20 n20 c20 q0) → Hid (PI v s21 A21 n21 c21 q1) → F 7 (Array.setIfInBounds (Array.setIfInBounds L0 3 true) 7 true) (Act.put (Act.put a0 (some 228) (.agg #[.bool s20, .slice A20 n20 c20])) (some 232) (.agg #[.bool s21, .slice A21 n21 c21])) v := by
     intro s20 A20 n20 c20 s21 A21 n21 c21 v HXj HZ3hr20j HZ7hr21j
     subst hF ha0 hL0
     simp only [PT] at  ⊢
     have hHeld := HS13.out _ HXj.out
     refine wpAnyH_ready (rs := [8, 12]) (by kernel_rfl) (by simp) ?_
     refine .cons rfl (fun K hK => ?_) ?_
     go_simp
     go_at_call 49
     refine (padd_any q0 q1 s20 s21 A20 A21 n20 c20 n21 c21 v HZ3hr20j.out HZ7hr21j.out (Nat.le_trans (plim HZ3hr20j.out HF0.out.1.2.2) (by decide)) (Nat.le_trans (plim HZ7hr21j.out HF1.out.1.2.2) (by decide)) HF0.out.1.2.2 HF1.out.1.2.2).mono ?_
     rw [HIN22.out.1, HIN22.out.2]
     rintro e v30 ⟨s23, A23, n23, c23, rfl, hr23, hb⟩
     have HB30 := hJ hb
     have HR30hr23 := hJ hr23
     clear hb hr23
     go_wp2_with fail
     have HX30 := hJ (bt HXj.out HB30.out)
     have HZ30_0 := hJ (PIo.new HZ3hr20j.out HB30.out)
     have HZ30_1 := hJ (PIo.new HZ7hr21j.out HB30.out)
     clear hHeld
     refine hK.out _ _ (HS13.out _ HX30.out) (fun hHeld => ?_)
     clear hK K
     try simp only [PT]
     refine tq 9 ?_
     try simp only [PT]
     refine tq 10 ?_
     try simp only [PT]
     refine tq 11 ?_
     try simp only [PT]
     exact wpAnyH_cast2 (by kernel_rfl) (by kernel_rfl) (J31_3_7_8 s20 A20 n20 c20 s21 A21 n21 c21 s23 A23 n23 c23 v30 HX30 HZ30_0 HZ30_1 HR30hr23)
     refine .cons rfl (fun K hK => ?_) .nil
     go_simp
     have HB31 := hJ ((Below.refl v.heap.size v).alloc (Nat.le_refl _) (.cells #[.bool false, .slice none 0 0] 33))
     have HP31 := hJ (BX.lit v 33 #[.bool false, .slice none 0 0])
     obtain ⟨v31, hV⟩ := nmz (World.alloc v (.cells #[.bool false, .slice none 0 0] 33))
     obtain ⟨g31_12, hg⟩ := nmz (v.heap.size)
     rw [hV] at HB31 HP31 ⊢
     rw [hg] at HP31 ⊢
     have HG31 := hJ (show v11.heap.size ≤ g31_12 by rw [← hg]; exact HXj.out.size)
     clear hV hg
     have HX31 := hJ (bt HXj.out HB31.out)
     have HZ31_0 := hJ (PIo.new HZ3hr20j.out HB31.out)
     have HZ31_1 := hJ (PIo.new HZ7hr21j.out HB31.out)
     clear hHeld
     refine hK.out _ _ (HS13.out _ HX31.out) (fun hHeld => ?_)
     clear hK K
     try simp only [PT]
     exact wpAnyH_cast2 (by kernel_rfl) (by kernel_rfl) (J31_3_7_12 s20 A20 n20 c20 s21 A21 n21 c21 g31_12 v31 HX31 HZ31_0 HZ31_1 HP31 HG31)
    have J31_3_12 : ∀ s20 A20 n20 c20 g31_12 v, Hid (Below v11.heap.size v11 v) → Hid (PI v s20 A20 n20 c20 q0) → Hid (BX 33 v g31_12 #[.bool false, .slice none 0 0]) → Hid (v11.heap.size ≤ g31_12) → F 7 (Array.setIfInBounds (Array.setIfInBounds L0 3 true) 12 true) (Act.put (Act.put a0 (some 228) (.agg #[.bool s20, .slice A20 n20 c20])) (some 21) (.pointer (some ⟨g31_12, 0, none⟩))) v := by
     intro s20 A20 n20 c20 g31_12 v HXj HZ3hr20j HPg31_12j HGg31_12j
     subst hF ha0 hL0
     simp only [PT] at  ⊢
     have hHeld := HS13.out _ HXj.out
     refine wpAnyH_ready (rs := [7]) (by kernel_rfl) (by simp) ?_
     refine .cons rfl (fun K hK => ?_) .nil
     go_simp
     go_at_call 51
     refine (den_any p1 q1 sx1 tx1 Ax1 Bx1 nx1 cx1 mx1 dx1 v (PF.new HPX1w4.out HXj.out) (Nat.le_trans (plim (PF.new HPX1w4.out HXj.out).2 (dn_lim HF1.out.1.2.2)) (by decide)) HF1.out.1.1.1).mono ?_
     rintro e v32 ⟨s21, A21, n21, c21, rfl, hr21, hb⟩
     have HB32 := hJ hb
     have HR32hr21 := hJ hr21
     clear hb hr21
     go_wp2_with fail
     have HX32 := hJ (bt HXj.out HB32.out)
     have HZ32_0 := hJ (PIo.new HZ3hr20j.out HB32.out)
     have HP32g31_12 := hJ (BX.new HPg31_12j.out HB32.out)
     clear hHeld
     refine hK.out _ _ (HS13.out _ HX32.out) (fun hHeld => ?_)
     clear hK K
     try simp only [PT]
     exact wpAnyH_cast2 (by kernel_rfl) (by kernel_rfl) (J31_3_7_12 s20 A20 n20 c20 s21 A21 n21 c21 g31_12 v32 HX32 HZ32_0 HR32hr21 HP32g31_12 HGg31_12j)
    have J31_3 : ∀ s20 A20 n20 c20 v, Hid (Below v11.heap.size v11 v) → Hid (PI v s20 A20 n20 c20 q0) → F 8 (Array.setIfInBounds L0 3 true) (Act.put a0 (some 228) (.agg #[.bool s20, .slice A20 n20 c20])) v := by
     intro s20 A20 n20 c20 v HXj HZ3hr20j
     subst hF ha0 hL0
     simp only [PT] at  ⊢
     have hHeld := HS13.out _ HXj.out
     refine wpAnyH_ready (rs := [7, 12]) (by kernel_rfl) (by simp) ?_
     refine .cons rfl (fun K hK => ?_) ?_
     go_simp
     go_at_call 51
     refine (den_any p1 q1 sx1 tx1 Ax1 Bx1 nx1 cx1 mx1 dx1 v (PF.new HPX1w4.out HXj.out) (Nat.le_trans (plim (PF.new HPX1w4.out HXj.out).2 (dn_lim HF1.out.1.2.2)) (by decide)) HF1.out.1.1.1).mono ?_
     rintro e v33 ⟨s21, A21, n21, c21, rfl, hr21, hb⟩
     have HB33 := hJ hb
     have HR33hr21 := hJ hr21
     clear hb hr21
     go_wp2_with fail
     have HX33 := hJ (bt HXj.out HB33.out)
     have HZ33_0 := hJ (PIo.new HZ3hr20j.out HB33.out)
     clear hHeld
     refine hK.out _ _ (HS13.out _ HX33.out) (fun hHeld => ?_)
     clear hK K
     try simp only [PT]
     exact wpAnyH_cast2 (by kernel_rfl) (by kernel_rfl) (J31_3_7 s20 A20 n20 c20 s21 A21 n21 c21 v33 HX33 HZ33_0 HR33hr21)
     refine .cons rfl (fun K hK => ?_) .nil
     go_simp
     have HB34 := hJ ((Below.refl v.heap.size v).alloc (Nat.le_refl _) (.cells #[.bool false, .slice none 0 0] 33))
     have HP34 := hJ (BX.lit v 33 #[.bool false, .slice none 0 0])
     obtain ⟨v34, hV⟩ := nmz (World.alloc v (.cells #[.bool false, .slice none 0 0] 33))
     obtain ⟨g31_12, hg⟩ := nmz (v.heap.size)
     rw [hV] at HB34 HP34 ⊢
     rw [hg] at HP34 ⊢
     have HG34 := hJ (show v11.heap.size ≤ g31_12 by rw [← hg]; exact HXj.out.size)
     clear hV hg
     have HX34 := hJ (bt HXj.out HB34.out)
     have HZ34_0 := hJ (PIo.new HZ3hr20j.out HB34.out)
     clear hHeld
     refine hK.out _ _ (HS13.out _ HX34.out) (fun hHeld => ?_)
     clear hK K
     try simp only [PT]
     exact wpAnyH_cast2 (by kernel_rfl) (by kernel_rfl) (J31_3_12 s20 A20 n20 c20 g31_12 v34 HX34 HZ34_0 HP34 HG34)
    have J31_12 : ∀ g31_12 v, Hid (Below v11.heap.size v11 v) → Hid (BX 33 v g31_12 #[.bool false, .slice none 0 0]) → Hid (v11.heap.size ≤ g31_12) → F 8 (Array.setIfInBounds L0 12 true) (Act.put a0 (some 21) (.pointer (some ⟨g31_12, 0, none⟩))) v := by
     intro g31_12 v HXj HPg31_12j HGg31_12j
     subst hF ha0 hL0
     simp only [PT] at  ⊢
     have hHeld := HS13.out _ HXj.out
     refine wpAnyH_ready (rs := [3]) (by kernel_rfl) (by simp) ?_
     refine .cons rfl (fun K hK => ?_) .nil
     go_simp
     go_at_call 51
     refine (den_any p0 q0 sx0 tx0 Ax0 Bx0 nx0 cx0 mx0 dx0 v (PF.new HPX0w4.out HXj.out) (Nat.le_trans (plim (PF.new HPX0w4.out HXj.out).2 (dn_lim HF0.out.1.2.2)) (by decide)) HF0.out.1.1.1).mono ?_
     rintro e v35 ⟨s20, A20, n20, c20, rfl, hr20, hb⟩
     have HB35 := hJ hb
     have HR35hr20 := hJ hr20
     clear hb hr20
     go_wp2_with fail
     have HX35 := hJ (bt HXj.out HB35.out)
     have HP35g31_12 := hJ (BX.new HPg31_12j.out HB35.out)
     clear hHeld
     refine hK.out _ _ (HS13.out _ HX35.out) (fun hHeld => ?_)
     clear hK K
     try simp only [PT]
     exact wpAnyH_cast2 (by kernel_rfl) (by kernel_rfl) (J31_3_12 s20 A20 n20 c20 g31_12 v35 HX35 HR35hr20 HP35g31_12 HGg31_12j)
    subst hF ha0 hL0
    refine wpAnyH_ready (rs := [3, 12]) (by kernel_rfl) (by simp) ?_
    refine .cons rfl (fun K hK => ?_) ?_
    go_simp
    go_at_call 51
    refine (den_any p0 q0 sx0 tx0 Ax0 Bx0 nx0 cx0 mx0 dx0 v13 (PF.new HPX0w4.out HX13.out) (Nat.le_trans (plim (PF.new HPX0w4.out HX13.out).2 (dn_lim HF0.out.1.2.2)) (by decide)) HF0.out.1.1.1).mono ?_
    rintro e v36 ⟨s20, A20, n20, c20, rfl, hr20, hb⟩
    have HB36 := hJ hb
    have HR36hr20 := hJ hr20
    clear hb hr20
    go_wp2_with fail
    have HX36 := hJ (bt HX13.out HB36.out)
    clear hHeld
    refine hK.out _ _ (HS13.out _ HX36.out) (fun hHeld => ?_)
    clear hK K
    try simp only [PT]
    exact wpAnyH_cast2 (by kernel_rfl) (by kernel_rfl) (J31_3 s20 A20 n20 c20 v36 HX36 HR36hr20)
    refine .cons rfl (fun K hK => ?_) .nil
    go_simp
    have HB37 := hJ ((Below.refl v13.heap.size v13).alloc (Nat.le_refl _) (.cells #[.bool false, .slice none 0 0] 33))
    have HP37 := hJ (BX.lit v13 33 #[.bool false, .slice none 0 0])
    obtain ⟨v37, hV⟩ := nmz (World.alloc v13 (.cells #[.bool false, .slice none 0 0] 33))
    obtain ⟨g31_12, hg⟩ := nmz (v13.heap.size)
    rw [hV] at HB37 HP37 ⊢
    rw [hg] at HP37 ⊢
    have HG37 := hJ (show v11.heap.size ≤ g31_12 by rw [← hg]; exact HX13.out.size)
    clear hV hg
    have HX37 := hJ (bt HX13.out HB37.out)
    clear hHeld
    refine hK.out _ _ (HS13.out _ HX37.out) (fun hHeld => ?_)
    clear hK K
    try simp only [PT]
    exact wpAnyH_cast2 (by kernel_rfl) (by kernel_rfl) (J31_12 g31_12 v37 HX37 HP37 HG37)
   have J30_3_7_8 : ∀ s16 A16 n16 c16 s17 A17 n17 c17 s19 A19 n19 c19 v, Hid (Below v9.heap.size v9 v) → Hid (PI v s16 A16 n16 c16 p0) → Hid (PI v s17 A17 n17 c17 p1) → Hid (PI v s19 A19 n19 c19 ((p0 + p1))) → F 3 (Array.setIfInBounds (Array.setIfInBounds (Array.setIfInBounds (Array.setIfInBounds (Array.setIfInBounds (Array.setIfInBounds L0 3 true) 7 true) 8 true) 9 true) 10 true) 11 true) (Act.put (Act.put (Act.put (Act.put (Act.put (Act.put a0 (some 216) (.agg #[.bool s16, .slice A16 n16 c16])) (some 220) (.agg #[.bool s17, .slice A17 n17 c17])) (some 221) (.tuple #[.agg #[.bool s19, .slice A19 n19 c19], .int .i64 0])) (some 212) (.tuple #[.agg #[.bool s19, .slice A19 n19 c19], .int .i64 0])) (some 222) (.agg #[.bool s19, .slice A19 n19 c19])) (some 223) (.int .i64 0)) v := by
    intro s16 A16 n16 c16 s17 A17 n17 c17 s19 A19 n19 c19 v HXj HZ3hr16j HZ7hr17j HZ8hr19j
    subst hF ha0 hL0
    simp only [PT] at  ⊢
    have hHeld := HS10.out _ HXj.out
    refine wpAnyH_ready (rs := [12]) (by kernel_rfl) (by simp) ?_
    refine .cons rfl (fun K hK => ?_) .nil
    go_simp
    have HB38 := hJ ((Below.refl v.heap.size v).alloc (Nat.le_refl _) (.cells #[.bool false, .slice none 0 0] 33))
    have HP38 := hJ (BX.lit v 33 #[.bool false, .slice none 0 0])
    obtain ⟨v38, hV⟩ := nmz (World.alloc v (.cells #[.bool false, .slice none 0 0] 33))
    obtain ⟨g30_12, hg⟩ := nmz (v.heap.size)
    rw [hV] at HB38 HP38 ⊢
    rw [hg] at HP38 ⊢
    have HG38 := hJ (show v9.heap.size ≤ g30_12 by rw [← hg]; exact HXj.out.size)
    clear hV hg
    have HX38 := hJ (bt HXj.out HB38.out)
    have HZ38_0 := hJ (PIo.new HZ3hr16j.out HB38.out)
    have HZ38_1 := hJ (PIo.new HZ7hr17j.out HB38.out)
    have HZ38_2 := hJ (PIo.new HZ8hr19j.out HB38.out)
    clear hHeld
    refine hK.out _ _ (HS10.out _ HX38.out) (fun hHeld => ?_)
    clear hK K
    try simp only [PT]
    exact wpAnyH_cast2 (by kernel_rfl) (by kernel_rfl) (J30_3_7_8_12 s16 A16 n16 c16 s17 A17 n17 c17 s19 A19 n19 c19 g30_12 v38 HX38 HZ38_0 HZ38_1 HZ38_2 HP38 HG38)
   have J30_3_7_12 : ∀ s16 A16 n16 c16 s17 A17 n17 c17 g30_12 v, Hid (Below v9.heap.size v9 v) → Hid (PI v s16 A16 n16 c16 p0) → Hid (PI v s17 A17 n17 c17 p1) → Hid (BX 33 v g30_12 #[.bool false, .slice none 0 0]) → Hid (v9.heap.size ≤ g30_12) → F 6 (Array.setIfInBounds (Array.setIfInBounds (Array.setIfInBounds L0 3 true) 7 true) 12 true) (Act.put (Act.put (Act.put a0 (some 216) (.agg #[.bool s16, .slice A16 n16 c16])) (some 220) (.agg #[.bool s17, .slice A17 n17 c17])) (some 19) (.pointer (some ⟨g30_12, 0, none⟩))) v := by
    intro s16 A16 n16 c16 s17 A17 n17 c17 g30_12 v HXj HZ3hr16j HZ7hr17j HPg30_12j HGg30_12j
    subst hF ha0 hL0
    simp only [PT] at  ⊢
    have hHeld := HS10.out _ HXj.out
    refine wpAnyH_ready (rs := [8]) (by kernel_rfl) (by simp) ?_
    refine .cons rfl (fun K hK => ?_) .nil
    go_simp
    go_at_call 49
    refine (padd_any p0 p1 s16 s17 A16 A17 n16 c16 n17 c17 v HZ3hr16j.out HZ7hr17j.out (Nat.le_trans (plim HZ3hr16j.out HF0.out.1.2.1) (by decide)) (Nat.le_trans (plim HZ7hr17j.out HF1.out.1.2.1) (by decide)) HF0.out.1.2.1 HF1.out.1.2.1).mono ?_
    rw [HIN18.out.1, HIN18.out.2]
    rintro e v39 ⟨s19, A19, n19, c19, rfl, hr19, hb⟩
    have HB39 := hJ hb
    have HR39hr19 := hJ hr19
    clear hb hr19
    go_wp2_with fail
    have HX39 := hJ (bt HXj.out HB39.out)
    have HZ39_0 := hJ (PIo.new HZ3hr16j.out HB39.out)
    have HZ39_1 := hJ (PIo.new HZ7hr17j.out HB39.out)
    have HP39g30_12 := hJ (BX.new HPg30_12j.out HB39.out)
    clear hHeld
    refine hK.out _ _ (HS10.out _ HX39.out) (fun hHeld => ?_)
    clear hK K
    try simp only [PT]
    refine tq 9 ?_
    try simp only [PT]
    refine tq 10 ?_
    try simp only [PT]
    refine tq 11 ?_
    try simp only [PT]
    exact wpAnyH_cast2 (by kernel_rfl) (by kernel_rfl) (J30_3_7_8_12 s16 A16 n16 c16 s17 A17 n17 c17 s19 A19 n19 c19 g30_12 v39 HX39 HZ39_0 HZ39_1 HR39hr19 HP39g30_12 HGg30_12j)
   have J30_3_7 : ∀ s16 A16 n16 c16 s17 A17 n17 c17 v, Hid (Below v9.heap.size v9 v) → Hid (PI v s16 A16 n16 c16 p0) → Hid (PI v s17 A17 n17 c17 p1) → F 7 (Array.setIfInBounds (Array.setIfInBounds L0 3 true) 7 true) (Act.put (Act.put a0 (some 216) (.agg #[.bool s16, .slice A16 n16 c16])) (some 220) (.agg #[.bool s17, .slice A17 n17 c17])) v := by
    intro s16 A16 n16 c16 s17 A17 n17 c17 v HXj HZ3hr16j HZ7hr17j
    subst hF ha0 hL0
    simp only [PT] at  ⊢
    have hHeld := HS10.out _ HXj.out
    refine wpAnyH_ready (rs := [8, 12]) (by kernel_rfl) (by simp) ?_
    refine .cons rfl (fun K hK => ?_) ?_
    go_simp
    go_at_call 49
    refine (padd_any p0 p1 s16 s17 A16 A17 n16 c16 n17 c17 v HZ3hr16j.out HZ7hr17j.out (Nat.le_trans (plim HZ3hr16j.out HF0.out.1.2.1) (by decide)) (Nat.le_trans (plim HZ7hr17j.out HF1.out.1.2.1) (by decide)) HF0.out.1.2.1 HF1.out.1.2.1).mono ?_
    rw [HIN18.out.1, HIN18.out.2]
    rintro e v40 ⟨s19, A19, n19, c19, rfl, hr19, hb⟩
    have HB40 := hJ hb
    have HR40hr19 := hJ hr19
    clear hb hr19
    go_wp2_with fail
    have HX40 := hJ (bt HXj.out HB40.out)
    have HZ40_0 := hJ (PIo.new HZ3hr16j.out HB40.out)
    have HZ40_1 := hJ (PIo.new HZ7hr17j.out HB40.out)
    clear hHeld
    refine hK.out _ _ (HS10.out _ HX40.out) (fun hHeld => ?_)
    clear hK K
    try simp only [PT]
    refine tq 9 ?_
    try simp only [PT]
    refine tq 10 ?_
    try simp only [PT]
    refine tq 11 ?_
    try simp only [PT]
    exact wpAnyH_cast2 (by kernel_rfl) (by kernel_rfl) (J30_3_7_8 s16 A16 n16 c16 s17 A17 n17 c17 s19 A19 n19 c19 v40 HX40 HZ40_0 HZ40_1 HR40hr19)
    refine .cons rfl (fun K hK => ?_) .nil
    go_simp
    have HB41 := hJ ((Below.refl v.heap.size v).alloc (Nat.le_refl _) (.cells #[.bool false, .slice none 0 0] 33))
    have HP41 := hJ (BX.lit v 33 #[.bool false, .slice none 0 0])
    obtain ⟨v41, hV⟩ := nmz (World.alloc v (.cells #[.bool false, .slice none 0 0] 33))
    obtain ⟨g30_12, hg⟩ := nmz (v.heap.size)
    rw [hV] at HB41 HP41 ⊢
    rw [hg] at HP41 ⊢
    have HG41 := hJ (show v9.heap.size ≤ g30_12 by rw [← hg]; exact HXj.out.size)
    clear hV hg
    have HX41 := hJ (bt HXj.out HB41.out)
    have HZ41_0 := hJ (PIo.new HZ3hr16j.out HB41.out)
    have HZ41_1 := hJ (PIo.new HZ7hr17j.out HB41.out)
    clear hHeld
    refine hK.out _ _ (HS10.out _ HX41.out) (fun hHeld => ?_)
    clear hK K
    try simp only [PT]
    exact wpAnyH_cast2 (by kernel_rfl) (by kernel_rfl) (J30_3_7_12 s16 A16 n16 c16 s17 A17 n17 c17 g30_12 v41 HX41 HZ41_0 HZ41_1 HP41 HG41)
   have J30_3_12 : ∀ s16 A16 n16 c16 g30_12 v, Hid (Below v9.heap.size v9 v) → Hid (PI v s16 A16 n16 c16 p0) → Hid (BX 33 v g30_12 #[.bool false, .slice none 0 0]) → Hid (v9.heap.size ≤ g30_12) → F 7 (Array.setIfInBounds (Array.setIfInBounds L0 3 true) 12 true) (Act.put (Act.put a0 (some 216) (.agg #[.bool s16, .slice A16 n16 c16])) (some 19) (.pointer (some ⟨g30_12, 0, none⟩))) v := by
    intro s16 A16 n16 c16 g30_12 v HXj HZ3hr16j HPg30_12j HGg30_12j
    subst hF ha0 hL0
    simp only [PT] at  ⊢
    have hHeld := HS10.out _ HXj.out
    refine wpAnyH_ready (rs := [7]) (by kernel_rfl) (by simp) ?_
    refine .cons rfl (fun K hK => ?_) .nil
    go_simp
    go_at_call 50
    refine (num_any p1 q1 sx1 tx1 Ax1 Bx1 nx1 cx1 mx1 dx1 v (PF.new HPX1w3.out HXj.out)).mono ?_
    rintro e v42 ⟨s17, A17, n17, c17, rfl, hr17, hb⟩
    have HB42 := hJ hb
    have HR42hr17 := hJ hr17
    clear hb hr17
    go_wp2_with fail
    have HX42 := hJ (bt HXj.out HB42.out)
    have HZ42_0 := hJ (PIo.new HZ3hr16j.out HB42.out)
    have HP42g30_12 := hJ (BX.new HPg30_12j.out HB42.out)
    clear hHeld
    refine hK.out _ _ (HS10.out _ HX42.out) (fun hHeld => ?_)
    clear hK K
    try simp only [PT]
    exact wpAnyH_cast2 (by kernel_rfl) (by kernel_rfl) (J30_3_7_12 s16 A16 n16 c16 s17 A17 n17 c17 g30_12 v42 HX42 HZ42_0 HR42hr17 HP42g30_12 HGg30_12j)
   have J30_3 : ∀ s16 A16 n16 c16 v, Hid (Below v9.heap.size v9 v) → Hid (PI v s16 A16 n16 c16 p0) → F 8 (Array.setIfInBounds L0 3 true) (Act.put a0 (some 216) (.agg #[.bool s16, .slice A16 n16 c16])) v := by
    intro s16 A16 n16 c16 v HXj HZ3hr16j
    subst hF ha0 hL0
    simp only [PT] at  ⊢
    have hHeld := HS10.out _ HXj.out
    refine wpAnyH_ready (rs := [7, 12]) (by kernel_rfl) (by simp) ?_
    refine .cons rfl (fun K hK => ?_) ?_
    go_simp
    go_at_call 50
    refine (num_any p1 q1 sx1 tx1 Ax1 Bx1 nx1 cx1 mx1 dx1 v (PF.new HPX1w3.out HXj.out)).mono ?_
    rintro e v43 ⟨s17, A17, n17, c17, rfl, hr17, hb⟩
    have HB43 := hJ hb
    have HR43hr17 := hJ hr17
    clear hb hr17
    go_wp2_with fail
    have HX43 := hJ (bt HXj.out HB43.out)
    have HZ43_0 := hJ (PIo.new HZ3hr16j.out HB43.out)
    clear hHeld
    refine hK.out _ _ (HS10.out _ HX43.out) (fun hHeld => ?_)
    clear hK K
    try simp only [PT]
    exact wpAnyH_cast2 (by kernel_rfl) (by kernel_rfl) (J30_3_7 s16 A16 n16 c16 s17 A17 n17 c17 v43 HX43 HZ43_0 HR43hr17)
    refine .cons rfl (fun K hK => ?_) .nil
    go_simp
    have HB44 := hJ ((Below.refl v.heap.size v).alloc (Nat.le_refl _) (.cells #[.bool false, .slice none 0 0] 33))
    have HP44 := hJ (BX.lit v 33 #[.bool false, .slice none 0 0])
    obtain ⟨v44, hV⟩ := nmz (World.alloc v (.cells #[.bool false, .slice none 0 0] 33))
    obtain ⟨g30_12, hg⟩ := nmz (v.heap.size)
    rw [hV] at HB44 HP44 ⊢
    rw [hg] at HP44 ⊢
    have HG44 := hJ (show v9.heap.size ≤ g30_12 by rw [← hg]; exact HXj.out.size)
    clear hV hg
    have HX44 := hJ (bt HXj.out HB44.out)
    have HZ44_0 := hJ (PIo.new HZ3hr16j.out HB44.out)
    clear hHeld
    refine hK.out _ _ (HS10.out _ HX44.out) (fun hHeld => ?_)
    clear hK K
    try simp only [PT]
    exact wpAnyH_cast2 (by kernel_rfl) (by kernel_rfl) (J30_3_12 s16 A16 n16 c16 g30_12 v44 HX44 HZ44_0 HP44 HG44)
   have J30_12 : ∀ g30_12 v, Hid (Below v9.heap.size v9 v) → Hid (BX 33 v g30_12 #[.bool false, .slice none 0 0]) → Hid (v9.heap.size ≤ g30_12) → F 8 (Array.setIfInBounds L0 12 true) (Act.put a0 (some 19) (.pointer (some ⟨g30_12, 0, none⟩))) v := by
    intro g30_12 v HXj HPg30_12j HGg30_12j
    subst hF ha0 hL0
    simp only [PT] at  ⊢
    have hHeld := HS10.out _ HXj.out
    refine wpAnyH_ready (rs := [3]) (by kernel_rfl) (by simp) ?_
    refine .cons rfl (fun K hK => ?_) .nil
    go_simp
    go_at_call 50
    refine (num_any p0 q0 sx0 tx0 Ax0 Bx0 nx0 cx0 mx0 dx0 v (PF.new HPX0w3.out HXj.out)).mono ?_
    rintro e v45 ⟨s16, A16, n16, c16, rfl, hr16, hb⟩
    have HB45 := hJ hb
    have HR45hr16 := hJ hr16
    clear hb hr16
    go_wp2_with fail
    have HX45 := hJ (bt HXj.out HB45.out)
    have HP45g30_12 := hJ (BX.new HPg30_12j.out HB45.out)
    clear hHeld
    refine hK.out _ _ (HS10.out _ HX45.out) (fun hHeld => ?_)
    clear hK K
    try simp only [PT]
    exact wpAnyH_cast2 (by kernel_rfl) (by kernel_rfl) (J30_3_12 s16 A16 n16 c16 g30_12 v45 HX45 HR45hr16 HP45g30_12 HGg30_12j)
   subst hF ha0 hL0
   refine wpAnyH_ready (rs := [3, 12]) (by kernel_rfl) (by simp) ?_
   refine .cons rfl (fun K hK => ?_) ?_
   go_simp
   go_at_call 50
   refine (num_any p0 q0 sx0 tx0 Ax0 Bx0 nx0 cx0 mx0 dx0 v10 (PF.new HPX0w3.out HX10.out)).mono ?_
   rintro e v46 ⟨s16, A16, n16, c16, rfl, hr16, hb⟩
   have HB46 := hJ hb
   have HR46hr16 := hJ hr16
   clear hb hr16
   go_wp2_with fail
   have HX46 := hJ (bt HX10.out HB46.out)
   clear hHeld
   refine hK.out _ _ (HS10.out _ HX46.out) (fun hHeld => ?_)
   clear hK K
   try simp only [PT]
   exact wpAnyH_cast2 (by kernel_rfl) (by kernel_rfl) (J30_3 s16 A16 n16 c16 v46 HX46 HR46hr16)
   refine .cons rfl (fun K hK => ?_) .nil
   go_simp
   have HB47 := hJ ((Below.refl v10.heap.size v10).alloc (Nat.le_refl _) (.cells #[.bool false, .slice none 0 0] 33))
   have HP47 := hJ (BX.lit v10 33 #[.bool false, .slice none 0 0])
   obtain ⟨v47, hV⟩ := nmz (World.alloc v10 (.cells #[.bool false, .slice none 0 0] 33))
   obtain ⟨g30_12, hg⟩ := nmz (v10.heap.size)
   rw [hV] at HB47 HP47 ⊢
   rw [hg] at HP47 ⊢
   have HG47 := hJ (show v9.heap.size ≤ g30_12 by rw [← hg]; exact HX10.out.size)
   clear hV hg
   have HX47 := hJ (bt HX10.out HB47.out)
   clear hHeld
   refine hK.out _ _ (HS10.out _ HX47.out) (fun hHeld => ?_)
   clear hK K
   try simp only [PT]
   exact wpAnyH_cast2 (by kernel_rfl) (by kernel_rfl) (J30_12 g30_12 v47 HX47 HP47 HG47)
  have J27_6 : ∀ s14 A14 n14 c14 t14 B14 m14 d14 v, Hid (Below v2.heap.size v2 v) → Hid (PF v s14 A14 n14 c14 t14 B14 m14 d14 P13 Q13) → F 3 (Array.setIfInBounds (Array.setIfInBounds (Array.setIfInBounds (Array.setIfInBounds L0 6 true) 7 true) 8 true) 9 true) (Act.put (Act.put (Act.put (Act.put a0 (some 191) (.tuple #[.agg #[.bool s14, .slice A14 n14 c14, .bool t14, .slice B14 m14 d14], .int .i64 0])) (some 184) (.tuple #[.agg #[.bool s14, .slice A14 n14 c14, .bool t14, .slice B14 m14 d14], .int .i64 0])) (some 192) (.agg #[.bool s14, .slice A14 n14 c14, .bool t14, .slice B14 m14 d14])) (some 193) (.int .i64 0)) v := by
   intro s14 A14 n14 c14 t14 B14 m14 d14 v HXj HZ6hr14j
   subst hF ha0 hL0
   simp only [PT] at  ⊢
   have hHeld := HS4.out _ HXj.out
   refine wpAnyH_ready (rs := [10]) (by kernel_rfl) (by simp) ?_
   refine .cons rfl (fun K hK => ?_) .nil
   go_simp
   have HB48 := hJ ((Below.refl v.heap.size v).alloc (Nat.le_refl _) (.cells #[.bool false, .slice none 0 0, .bool false, .slice none 0 0] 35))
   have HP48 := hJ (BX.lit v 35 #[.bool false, .slice none 0 0, .bool false, .slice none 0 0])
   obtain ⟨v48, hV⟩ := nmz (World.alloc v (.cells #[.bool false, .slice none 0 0, .bool false, .slice none 0 0] 35))
   obtain ⟨g27_10, hg⟩ := nmz (v.heap.size)
   rw [hV] at HB48 HP48 ⊢
   rw [hg] at HP48 ⊢
   have HG48 := hJ (show v2.heap.size ≤ g27_10 by rw [← hg]; exact HXj.out.size)
   clear hV hg
   have HX48 := hJ (bt HXj.out HB48.out)
   have HZ48_0 := hJ (PF.new HZ6hr14j.out HB48.out)
   clear hHeld
   refine hK.out _ _ (HS4.out _ HX48.out) (fun hHeld => ?_)
   clear hK K
   try simp only [PT]
   exact wpAnyH_cast2 (by kernel_rfl) (by kernel_rfl) (J27_6_10 s14 A14 n14 c14 t14 B14 m14 d14 g27_10 v48 HX48 HZ48_0 HP48 HG48)
  have J27_10 : ∀ g27_10 v, Hid (Below v2.heap.size v2 v) → Hid (BX 35 v g27_10 #[.bool false, .slice none 0 0, .bool false, .slice none 0 0]) → Hid (v2.heap.size ≤ g27_10) → F 6 (Array.setIfInBounds L0 10 true) (Act.put a0 (some 17) (.pointer (some ⟨g27_10, 0, none⟩))) v := by
   intro g27_10 v HXj HPg27_10j HGg27_10j
   subst hF ha0 hL0
   simp only [PT] at  ⊢
   have hHeld := HS4.out _ HXj.out
   refine wpAnyH_ready (rs := [6]) (by kernel_rfl) (by simp) ?_
   refine .cons rfl (fun K hK => ?_) .nil
   go_simp
   go_at_call 37
   refine (fmul_any p1 q1 p2 q2 sx1 tx1 sx2 tx2 Ax1 Bx1 Ax2 Bx2 nx1 cx1 mx1 dx1 nx2 cx2 mx2 dx2 v (PF.new HPX1w1.out HXj.out) (PF.new HPX2w1.out HXj.out) HF1.out.1.1.1 HF2.out.1.1.1 HF1.out.1.2.1 HF1.out.1.2.2 HF2.out.1.2.1 HF2.out.1.2.2).mono ?_
   rw [HNP13.out, HNQ13.out, HCD13.out]
   rintro e v49 ⟨s14, A14, n14, c14, t14, B14, m14, d14, rfl, hr14, hb⟩
   have HB49 := hJ hb
   have HR49hr14 := hJ hr14
   clear hb hr14
   go_wp2_with fail
   have HX49 := hJ (bt HXj.out HB49.out)
   have HP49g27_10 := hJ (BX.new HPg27_10j.out HB49.out)
   clear hHeld
   refine hK.out _ _ (HS4.out _ HX49.out) (fun hHeld => ?_)
   clear hK K
   try simp only [PT]
   refine tq 7 ?_
   try simp only [PT]
   refine tq 8 ?_
   try simp only [PT]
   refine tq 9 ?_
   try simp only [PT]
   exact wpAnyH_cast2 (by kernel_rfl) (by kernel_rfl) (J27_6_10 s14 A14 n14 c14 t14 B14 m14 d14 g27_10 v49 HX49 HR49hr14 HP49g27_10 HGg27_10j)
  subst hF ha0 hL0
  refine wpAnyH_ready (rs := [6, 10]) (by kernel_rfl) (by simp) ?_
  refine .cons rfl (fun K hK => ?_) ?_
  go_simp
  go_at_call 37
  refine (fmul_any p1 q1 p2 q2 sx1 tx1 sx2 tx2 Ax1 Bx1 Ax2 Bx2 nx1 cx1 mx1 dx1 nx2 cx2 mx2 dx2 v4 (PF.new HPX1w1.out HX4.out) (PF.new HPX2w1.out HX4.out) HF1.out.1.1.1 HF2.out.1.1.1 HF1.out.1.2.1 HF1.out.1.2.2 HF2.out.1.2.1 HF2.out.1.2.2).mono ?_
  rw [HNP13.out, HNQ13.out, HCD13.out]
  rintro e v50 ⟨s14, A14, n14, c14, t14, B14, m14, d14, rfl, hr14, hb⟩
  have HB50 := hJ hb
  have HR50hr14 := hJ hr14
  clear hb hr14
  go_wp2_with fail
  have HX50 := hJ (bt HX4.out HB50.out)
  clear hHeld
  refine hK.out _ _ (HS4.out _ HX50.out) (fun hHeld => ?_)
  clear hK K
  try simp only [PT]
  refine tq 7 ?_
  try simp only [PT]
  refine tq 8 ?_
  try simp only [PT]
  refine tq 9 ?_
  try simp only [PT]
  exact wpAnyH_cast2 (by kernel_rfl) (by kernel_rfl) (J27_6 s14 A14 n14 c14 t14 B14 m14 d14 v50 HX50 HR50hr14)
  refine .cons rfl (fun K hK => ?_) .nil
  go_simp
  have HB51 := hJ ((Below.refl v4.heap.size v4).alloc (Nat.le_refl _) (.cells #[.bool false, .slice none 0 0, .bool false, .slice none 0 0] 35))
  have HP51 := hJ (BX.lit v4 35 #[.bool false, .slice none 0 0, .bool false, .slice none 0 0])
  obtain ⟨v51, hV⟩ := nmz (World.alloc v4 (.cells #[.bool false, .slice none 0 0, .bool false, .slice none 0 0] 35))
  obtain ⟨g27_10, hg⟩ := nmz (v4.heap.size)
  rw [hV] at HB51 HP51 ⊢
  rw [hg] at HP51 ⊢
  have HG51 := hJ (show v2.heap.size ≤ g27_10 by rw [← hg]; exact HX4.out.size)
  clear hV hg
  have HX51 := hJ (bt HX4.out HB51.out)
  clear hHeld
  refine hK.out _ _ (HS4.out _ HX51.out) (fun hHeld => ?_)
  clear hK K
  try simp only [PT]
  exact wpAnyH_cast2 (by kernel_rfl) (by kernel_rfl) (J27_10 g27_10 v51 HX51 HP51 HG51)
 have J26_6 : ∀ s12 A12 n12 c12 t12 B12 m12 d12 v, Hid (Below w.heap.size w v) → Hid (PF v s12 A12 n12 c12 t12 B12 m12 d12 P11 Q11) → F 3 (Array.setIfInBounds (Array.setIfInBounds (Array.setIfInBounds (Array.setIfInBounds L0 6 true) 7 true) 8 true) 9 true) (Act.put (Act.put (Act.put (Act.put a0 (some 181) (.tuple #[.agg #[.bool s12, .slice A12 n12 c12, .bool t12, .slice B12 m12 d12], .int .i64 0])) (some 174) (.tuple #[.agg #[.bool s12, .slice A12 n12 c12, .bool t12, .slice B12 m12 d12], .int .i64 0])) (some 182) (.agg #[.bool s12, .slice A12 n12 c12, .bool t12, .slice B12 m12 d12])) (some 183) (.int .i64 0)) v := by
  intro s12 A12 n12 c12 t12 B12 m12 d12 v HXj HZ6hr12j
  subst hF ha0 hL0
  simp only [PT] at  ⊢
  have hHeld := HS1.out _ HXj.out
  refine wpAnyH_ready (rs := [10]) (by kernel_rfl) (by simp) ?_
  refine .cons rfl (fun K hK => ?_) .nil
  go_simp
  have HB52 := hJ ((Below.refl v.heap.size v).alloc (Nat.le_refl _) (.cells #[.bool false, .slice none 0 0, .bool false, .slice none 0 0] 35))
  have HP52 := hJ (BX.lit v 35 #[.bool false, .slice none 0 0, .bool false, .slice none 0 0])
  obtain ⟨v52, hV⟩ := nmz (World.alloc v (.cells #[.bool false, .slice none 0 0, .bool false, .slice none 0 0] 35))
  obtain ⟨g26_10, hg⟩ := nmz (v.heap.size)
  rw [hV] at HB52 HP52 ⊢
  rw [hg] at HP52 ⊢
  have HG52 := hJ (show w.heap.size ≤ g26_10 by rw [← hg]; exact HXj.out.size)
  clear hV hg
  have HX52 := hJ (bt HXj.out HB52.out)
  have HZ52_0 := hJ (PF.new HZ6hr12j.out HB52.out)
  clear hHeld
  refine hK.out _ _ (HS1.out _ HX52.out) (fun hHeld => ?_)
  clear hK K
  try simp only [PT]
  exact wpAnyH_cast2 (by kernel_rfl) (by kernel_rfl) (J26_6_10 s12 A12 n12 c12 t12 B12 m12 d12 g26_10 v52 HX52 HZ52_0 HP52 HG52)
 have J26_10 : ∀ g26_10 v, Hid (Below w.heap.size w v) → Hid (BX 35 v g26_10 #[.bool false, .slice none 0 0, .bool false, .slice none 0 0]) → Hid (w.heap.size ≤ g26_10) → F 6 (Array.setIfInBounds L0 10 true) (Act.put a0 (some 15) (.pointer (some ⟨g26_10, 0, none⟩))) v := by
  intro g26_10 v HXj HPg26_10j HGg26_10j
  subst hF ha0 hL0
  simp only [PT] at  ⊢
  have hHeld := HS1.out _ HXj.out
  refine wpAnyH_ready (rs := [6]) (by kernel_rfl) (by simp) ?_
  refine .cons rfl (fun K hK => ?_) .nil
  go_simp
  go_at_call 37
  refine (fmul_any p0 q0 p2 q2 sx0 tx0 sx2 tx2 Ax0 Bx0 Ax2 Bx2 nx0 cx0 mx0 dx0 nx2 cx2 mx2 dx2 v (PF.new HPX0.out HXj.out) (PF.new HPX2.out HXj.out) HF0.out.1.1.1 HF2.out.1.1.1 HF0.out.1.2.1 HF0.out.1.2.2 HF2.out.1.2.1 HF2.out.1.2.2).mono ?_
  rw [HNP11.out, HNQ11.out, HCD11.out]
  rintro e v53 ⟨s12, A12, n12, c12, t12, B12, m12, d12, rfl, hr12, hb⟩
  have HB53 := hJ hb
  have HR53hr12 := hJ hr12
  clear hb hr12
  go_wp2_with fail
  have HX53 := hJ (bt HXj.out HB53.out)
  have HP53g26_10 := hJ (BX.new HPg26_10j.out HB53.out)
  clear hHeld
  refine hK.out _ _ (HS1.out _ HX53.out) (fun hHeld => ?_)
  clear hK K
  try simp only [PT]
  refine tq 7 ?_
  try simp only [PT]
  refine tq 8 ?_
  try simp only [PT]
  refine tq 9 ?_
  try simp only [PT]
  exact wpAnyH_cast2 (by kernel_rfl) (by kernel_rfl) (J26_6_10 s12 A12 n12 c12 t12 B12 m12 d12 g26_10 v53 HX53 HR53hr12 HP53g26_10 HGg26_10j)
 subst hF ha0 hL0
 refine wpAnyH_ready (rs := [6, 10]) (by kernel_rfl) (by simp) ?_
 refine .cons rfl (fun K hK => ?_) ?_
 go_simp
 go_at_call 37
 refine (fmul_any p0 q0 p2 q2 sx0 tx0 sx2 tx2 Ax0 Bx0 Ax2 Bx2 nx0 cx0 mx0 dx0 nx2 cx2 mx2 dx2 v1 (PF.new HPX0.out HX1.out) (PF.new HPX2.out HX1.out) HF0.out.1.1.1 HF2.out.1.1.1 HF0.out.1.2.1 HF0.out.1.2.2 HF2.out.1.2.1 HF2.out.1.2.2).mono ?_
 rw [HNP11.out, HNQ11.out, HCD11.out]
 rintro e v54 ⟨s12, A12, n12, c12, t12, B12, m12, d12, rfl, hr12, hb⟩
 have HB54 := hJ hb
 have HR54hr12 := hJ hr12
 clear hb hr12
 go_wp2_with fail
 have HX54 := hJ (bt HX1.out HB54.out)
 clear hHeld
 refine hK.out _ _ (HS1.out _ HX54.out) (fun hHeld => ?_)
 clear hK K
 try simp only [PT]
 refine tq 7 ?_
 try simp only [PT]
 refine tq 8 ?_
 try simp only [PT]
 refine tq 9 ?_
 try simp only [PT]
 exact wpAnyH_cast2 (by kernel_rfl) (by kernel_rfl) (J26_6 s12 A12 n12 c12 t12 B12 m12 d12 v54 HX54 HR54hr12)
 refine .cons rfl (fun K hK => ?_) .nil
 go_simp
 have HB55 := hJ ((Below.refl v1.heap.size v1).alloc (Nat.le_refl _) (.cells #[.bool false, .slice none 0 0, .bool false, .slice none 0 0] 35))
 have HP55 := hJ (BX.lit v1 35 #[.bool false, .slice none 0 0, .bool false, .slice none 0 0])
 obtain ⟨v55, hV⟩ := nmz (World.alloc v1 (.cells #[.bool false, .slice none 0 0, .bool false, .slice none 0 0] 35))
 obtain ⟨g26_10, hg⟩ := nmz (v1.heap.size)
 rw [hV] at HB55 HP55 ⊢
 rw [hg] at HP55 ⊢
 have HG55 := hJ (show w.heap.size ≤ g26_10 by rw [← hg]; exact HX1.out.size)
 clear hV hg
 have HX55 := hJ (bt HX1.out HB55.out)
 clear hHeld
 refine hK.out _ _ (HS1.out _ HX55.out) (fun hHeld => ?_)
 clear hK K
 try simp only [PT]
 exact wpAnyH_cast2 (by kernel_rfl) (by kernel_rfl) (J26_10 g26_10 v55 HX55 HP55 HG55)
end Go.Proofs.YtbhnaffbgggabaaGreat
