/- The middle of the walk of the law FracOrder. -/
import Derived.Test.YtbhnaffbgggabaaGreatVI
import Derived.Laws.BytesArg
import Derived.Deep.DeepCutAuto
namespace Go.Proofs.YtbhnaffbgggabaaGreat
open Go.RowKit
attribute [local go_sem ↓] Go.wp_at_zero Go.wp_at_succ
set_option linter.unusedVariables false
set_option linter.unusedSimpArgs false
set_option maxRecDepth 100000 in
set_option maxHeartbeats 12800000 in
theorem order_t18 {u0 u1 u2 u3 u5 u6 u7 u8 u9 u10 u11 u12 u13 u14 u15 u16 u17 u18 u19 u20 u21 u22 u23 u24 u25 u26 u27 u28 u29 u30 u31 u32 u33 u34 u35 u36 u37 u38 u39 u40 u41 u42 u43 u44 u45 u46 u47 u48 u49 u50 u51 u52 u53 u54 u55 u56 u57 u58 u59 u60 u61 u62 u63 u64 u65 u66 u67 u68 u69 u70 u71 u72 u73 u74 u75 u76 u77 u78 u79 u80 u81 u82 u83 u84 u85 u86 u87 u88 u89 u90 u91 u92 u93 u94 u95 u96 u97 u98 u99 u100 u101 u102 u103 u104 u105 u106 u107 u108 u109 u110 u111 u112 u113 u114 u115 u116 u117 u118 u119 u120 u121 u122 u123 u124 u125 u126 u127 u128 u129 u130 u131 u132 u133 u134 u135 u136 u137 u138 u139 u140 u141 u142 u143 u144 u145 u146 u147 u148 u149 u150 u151 u152 u153 u154 u155 u156 u157 u158 u159 u160 u161 u162 u163 u164 u165 u166 u167 u168 u169 u170 u171 u172 u173 u174 u175 u176 u177 u178 u179 u180 u181 u182 u183 u184 u185 u186 u187 u188 u189 u190 u191 u192 u193 u194 u195 u196 u197 u198 u199 u200 u201 u202 u203 u204 u205 u206 u207 u208 u209 u210 u211 u212 u213 u214 u215 u216 u217 u218 u219 u220 u221 u222 u223 u224 u225 u226 u227 u228 u229 u230 u231 u232 u233 u234 u235 u236 u237 u238 u239 u240 u241 u242 u243 u244 u245 u246 u247 u248 u249 u250 u251 u252 u253 u254 u255 u256 u257 u258 u259 u260 u261 u262 u263 u264 u265 u266 u267 : Value} (p0 q0 p1 q1 p2 q2 : Int) (B gx cpx : Nat) (sx0 : Bool) (Ax0 : Option Addr) (nx0 cx0 : Nat) (tx0 : Bool) (Bx0 : Option Addr) (mx0 dx0 : Nat) (sx1 : Bool) (Ax1 : Option Addr) (nx1 cx1 : Nat) (tx1 : Bool) (Bx1 : Option Addr) (mx1 dx1 : Nat) (sx2 : Bool) (Ax2 : Option Addr) (nx2 cx2 : Nat) (tx2 : Bool) (Bx2 : Option Addr) (mx2 dx2 : Nat) (w0 w : World)
  (HF0 : Hid (Fr p0 q0 ∧ p0.natAbs < B2 2001 ∧ q0.natAbs < B2 2001)) (HF1 : Hid (Fr p1 q1 ∧ p1.natAbs < B2 2001 ∧ q1.natAbs < B2 2001)) (HF2 : Hid (Fr p2 q2 ∧ p2.natAbs < B2 2001 ∧ q2.natAbs < B2 2001))
  (HOX : Hid (OwnR noD w B 35 4 (.slice (some ⟨gx, 0, none⟩) 3 cpx) 3 [.bool sx0, .slice Ax0 nx0 cx0, .bool tx0, .slice Bx0 mx0 dx0, .bool sx1, .slice Ax1 nx1 cx1, .bool tx1, .slice Bx1 mx1 dx1, .bool sx2, .slice Ax2 nx2 cx2, .bool tx2, .slice Bx2 mx2 dx2]))
  (HPX0 : Hid (PF w sx0 Ax0 nx0 cx0 tx0 Bx0 mx0 dx0 p0 q0)) (HPX1 : Hid (PF w sx1 Ax1 nx1 cx1 tx1 Bx1 mx1 dx1 p1 q1)) (HPX2 : Hid (PF w sx2 Ax2 nx2 cx2 tx2 Bx2 mx2 dx2 p2 q2)) (HBL : Hid (Below w0.heap.size w0 w))
  (K K1 : Act → World → Prop) (hK : ∀ a w, Code.wp Tryz.prog (sq 6 ordB) (Exit.then K1 (bodyPost Tryz.prog Tryz.f6 fun e w' => e = .returned (.bool true) ∧ Below w0.heap.size w0 w')) a w → K a w) :
  Code.wp Tryz.prog (fs (sq 5 ordB)) (Exit.then K (bodyPost Tryz.prog Tryz.f6 fun e w' => e = .returned (.bool true) ∧ Below w0.heap.size w0 w')) ⟨(u0 :: u1 :: u2 :: u3 :: (.slice (some ⟨gx, 0, none⟩) 3 cpx : Value) :: u5 :: u6 :: u7 :: u8 :: u9 :: u10 :: u11 :: u12 :: u13 :: u14 :: u15 :: u16 :: u17 :: u18 :: u19 :: u20 :: u21 :: u22 :: u23 :: u24 :: u25 :: u26 :: u27 :: u28 :: u29 :: u30 :: u31 :: u32 :: u33 :: u34 :: u35 :: u36 :: u37 :: u38 :: u39 :: u40 :: u41 :: u42 :: u43 :: u44 :: u45 :: u46 :: u47 :: u48 :: u49 :: u50 :: u51 :: u52 :: u53 :: u54 :: u55 :: u56 :: u57 :: u58 :: u59 :: u60 :: u61 :: u62 :: u63 :: u64 :: u65 :: u66 :: u67 :: u68 :: u69 :: u70 :: u71 :: u72 :: u73 :: u74 :: u75 :: u76 :: u77 :: u78 :: u79 :: u80 :: u81 :: u82 :: u83 :: u84 :: u85 :: u86 :: u87 :: u88 :: u89 :: u90 :: u91 :: u92 :: u93 :: u94 :: u95 :: u96 :: u97 :: u98 :: u99 :: u100 :: u101 :: u102 :: u103 :: u104 :: u105 :: u106 :: u107 :: u108 :: u109 :: u110 :: u111 :: u112 :: u113 :: u114 :: u115 :: u116 :: u117 :: u118 :: u119 :: u120 :: u121 :: u122 :: u123 :: u124 :: u125 :: u126 :: u127 :: u128 :: u129 :: u130 :: u131 :: u132 :: u133 :: u134 :: u135 :: u136 :: u137 :: u138 :: u139 :: u140 :: u141 :: u142 :: u143 :: u144 :: u145 :: u146 :: u147 :: u148 :: u149 :: u150 :: u151 :: u152 :: u153 :: u154 :: u155 :: u156 :: u157 :: u158 :: u159 :: u160 :: u161 :: u162 :: u163 :: u164 :: u165 :: u166 :: u167 :: u168 :: u169 :: u170 :: u171 :: u172 :: u173 :: u174 :: u175 :: u176 :: u177 :: u178 :: u179 :: u180 :: u181 :: u182 :: u183 :: u184 :: u185 :: u186 :: u187 :: u188 :: u189 :: u190 :: u191 :: u192 :: u193 :: u194 :: u195 :: u196 :: u197 :: u198 :: u199 :: u200 :: u201 :: u202 :: u203 :: u204 :: u205 :: u206 :: u207 :: u208 :: u209 :: u210 :: u211 :: u212 :: u213 :: u214 :: u215 :: u216 :: u217 :: u218 :: u219 :: u220 :: u221 :: u222 :: u223 :: u224 :: u225 :: u226 :: u227 :: u228 :: u229 :: u230 :: u231 :: u232 :: u233 :: u234 :: u235 :: u236 :: u237 :: u238 :: u239 :: u240 :: u241 :: u242 :: u243 :: u244 :: u245 :: u246 :: u247 :: u248 :: u249 :: u250 :: u251 :: u252 :: u253 :: u254 :: u255 :: u256 :: u257 :: u258 :: u259 :: u260 :: u261 :: u262 :: u263 :: u264 :: u265 :: u266 :: u267 :: []).toArray, []⟩ w := by
 conv => arg 2; whnf
 conv at hK => intro a w; arg 1; arg 2; whnf
 obtain ⟨ca, hca⟩ := nmz (cmpI (p0 * q1) (p1 * q0))
 obtain ⟨cb, hcb⟩ := nmz (cmpI (p1 * q2) (p2 * q1))
 obtain ⟨cc, hcc⟩ := nmz (cmpI (p0 * q2) (p2 * q0))
 obtain ⟨cg, hcg⟩ := nmz (cmpI p2 0)
 have HCA := hJ hca
 have HCB := hJ hcb
 have HCC := hJ hcc
 have HCG := hJ hcg
 have HTR := hJ (fun (h1 : ca ≤ 0) (h2 : cb ≤ 0) => (show cc ≤ 0 by rw [← hcc]; exact cmp_trans HF0.out.1.1.1 HF1.out.1.1.1 HF2.out.1.1.1 (by rw [hca]; exact h1) (by rw [hcb]; exact h2)))
 obtain ⟨cz, hcz⟩ := nmz (ca * cg)
 have HCZ := hJ hcz
 have HZB := hJ (show -1 ≤ cz ∧ cz ≤ 1 by rw [← hcz, ← hca, ← hcg]; exact sgn_bound (cmp_bound _ _) (cmp_bound _ _))
 have HZW := hJ (show IntKind.i64.wrap (ca * cg) = cz by rw [hcz]; exact IntWalk.i64_in _ (by have := HZB.out; omega))
 clear hca hcb hcc hcg hcz
 have HS1 : Hid (∀ w', Below w.heap.size w w' → (fun w' : World => w'.cell? ⟨gx, 0, none⟩ = some (.bool sx0) ∧ w'.cell? ⟨gx, 1, none⟩ = some (.slice Ax0 nx0 cx0) ∧ w'.cell? ⟨gx, 2, none⟩ = some (.bool tx0) ∧ w'.cell? ⟨gx, 3, none⟩ = some (.slice Bx0 mx0 dx0) ∧ w'.cell? ⟨gx, 4, none⟩ = some (.bool sx1) ∧ w'.cell? ⟨gx, 5, none⟩ = some (.slice Ax1 nx1 cx1) ∧ w'.cell? ⟨gx, 6, none⟩ = some (.bool tx1) ∧ w'.cell? ⟨gx, 7, none⟩ = some (.slice Bx1 mx1 dx1) ∧ Below w.heap.size w w') w') := hJ (fun w' hb => ⟨(OwnR.new HOX.out hb).at 0 rfl, (OwnR.new HOX.out hb).at 1 rfl, (OwnR.new HOX.out hb).at 2 rfl, (OwnR.new HOX.out hb).at 3 rfl, (OwnR.new HOX.out hb).at 4 rfl, (OwnR.new HOX.out hb).at 5 rfl, (OwnR.new HOX.out hb).at 6 rfl, (OwnR.new HOX.out hb).at 7 rfl, hb⟩)
 go_wp2_with fail
 obtain ⟨v1, hv1⟩ := nmz (World.drew w)
 have HX1 := hJ (show Below w.heap.size w v1 by rw [← hv1]; exact (Below.refl _ _).drew)
 refine wp_region_held_drew (S := (fun w' : World => w'.cell? ⟨gx, 0, none⟩ = some (.bool sx0) ∧ w'.cell? ⟨gx, 1, none⟩ = some (.slice Ax0 nx0 cx0) ∧ w'.cell? ⟨gx, 2, none⟩ = some (.bool tx0) ∧ w'.cell? ⟨gx, 3, none⟩ = some (.slice Bx0 mx0 dx0) ∧ w'.cell? ⟨gx, 4, none⟩ = some (.bool sx1) ∧ w'.cell? ⟨gx, 5, none⟩ = some (.slice Ax1 nx1 cx1) ∧ w'.cell? ⟨gx, 6, none⟩ = some (.bool tx1) ∧ w'.cell? ⟨gx, 7, none⟩ = some (.slice Bx1 mx1 dx1) ∧ Below w.heap.size w w')) (by kernel_rfl) ?_ (fun hHeld => ?_)
 ·rw [hv1]
  exact HS1.out _ HX1.out
 rw [hv1] at hHeld ⊢
 clear hv1
 refine tq 0 ?_
 try simp only [PT]
 refine tq 1 ?_
 try simp only [PT]
 refine tq 2 ?_
 try simp only [PT]
 refine tq 3 ?_
 try simp only [PT]
 refine tq 4 ?_
 try simp only [PT]
 refine tq 5 ?_
 try simp only [PT]
 refine wpAnyH_ready (rs := [6]) (by kernel_rfl) (by simp) ?_
 refine .cons rfl (fun K hK => ?_) .nil
 go_simp
 go_at_call 46
 refine (fcompare_any p0 q0 p1 q1 sx0 tx0 sx1 tx1 Ax0 Bx0 Ax1 Bx1 nx0 cx0 mx0 dx0 nx1 cx1 mx1 dx1 v1 (PF.new HPX0.out HX1.out) (PF.new HPX1.out HX1.out) HF0.out.1.1.1 HF1.out.1.1.1 HF0.out.1.2.1 HF0.out.1.2.2 HF1.out.1.2.1 HF1.out.1.2.2).mono ?_
 rw [HCA.out]
 rintro e v2 ⟨rfl, hb⟩
 have HB2 := hJ hb
 clear hb
 go_wp2_with fail
 have HX2 := hJ (bt HX1.out HB2.out)
 clear hHeld
 refine hK.out _ _ (HS1.out _ HX2.out) (fun hHeld => ?_)
 clear hK K
 try simp only [PT]
 refine tq 7 ?_
 try simp only [PT]
 refine wpAnyH_done (by kernel_rfl) ?_ _
 clear hHeld
 have HOXw1 := hJ (OwnR.new HOX.out HX2.out)
 have HS3 : Hid (∀ w', Below v2.heap.size v2 w' → (fun w' : World => w'.cell? ⟨gx, 4, none⟩ = some (.bool sx1) ∧ w'.cell? ⟨gx, 5, none⟩ = some (.slice Ax1 nx1 cx1) ∧ w'.cell? ⟨gx, 6, none⟩ = some (.bool tx1) ∧ w'.cell? ⟨gx, 7, none⟩ = some (.slice Bx1 mx1 dx1) ∧ w'.cell? ⟨gx, 8, none⟩ = some (.bool sx2) ∧ w'.cell? ⟨gx, 9, none⟩ = some (.slice Ax2 nx2 cx2) ∧ w'.cell? ⟨gx, 10, none⟩ = some (.bool tx2) ∧ w'.cell? ⟨gx, 11, none⟩ = some (.slice Bx2 mx2 dx2) ∧ Below v2.heap.size v2 w') w') := hJ (fun w' hb => ⟨(OwnR.new HOXw1.out hb).at 4 rfl, (OwnR.new HOXw1.out hb).at 5 rfl, (OwnR.new HOXw1.out hb).at 6 rfl, (OwnR.new HOXw1.out hb).at 7 rfl, (OwnR.new HOXw1.out hb).at 8 rfl, (OwnR.new HOXw1.out hb).at 9 rfl, (OwnR.new HOXw1.out hb).at 10 rfl, (OwnR.new HOXw1.out hb).at 11 rfl, hb⟩)
 have HPX1w1 := hJ (PF.new HPX1.out HX2.out)
 have HPX2w1 := hJ (PF.new HPX2.out HX2.out)
 go_wp2_with fail
 obtain ⟨v3, hv3⟩ := nmz (World.drew v2)
 have HX3 := hJ (show Below v2.heap.size v2 v3 by rw [← hv3]; exact (Below.refl _ _).drew)
 refine wp_region_held_drew (S := (fun w' : World => w'.cell? ⟨gx, 4, none⟩ = some (.bool sx1) ∧ w'.cell? ⟨gx, 5, none⟩ = some (.slice Ax1 nx1 cx1) ∧ w'.cell? ⟨gx, 6, none⟩ = some (.bool tx1) ∧ w'.cell? ⟨gx, 7, none⟩ = some (.slice Bx1 mx1 dx1) ∧ w'.cell? ⟨gx, 8, none⟩ = some (.bool sx2) ∧ w'.cell? ⟨gx, 9, none⟩ = some (.slice Ax2 nx2 cx2) ∧ w'.cell? ⟨gx, 10, none⟩ = some (.bool tx2) ∧ w'.cell? ⟨gx, 11, none⟩ = some (.slice Bx2 mx2 dx2) ∧ Below v2.heap.size v2 w')) (by kernel_rfl) ?_ (fun hHeld => ?_)
 ·rw [hv3]
  exact HS3.out _ HX3.out
 rw [hv3] at hHeld ⊢
 clear hv3
 refine tq 0 ?_
 try simp only [PT]
 refine tq 1 ?_
 try simp only [PT]
 refine tq 2 ?_
 try simp only [PT]
 refine tq 3 ?_
 try simp only [PT]
 refine tq 4 ?_
 try simp only [PT]
 refine tq 5 ?_
 try simp only [PT]
 refine wpAnyH_ready (rs := [6]) (by kernel_rfl) (by simp) ?_
 refine .cons rfl (fun K hK => ?_) .nil
 go_simp
 go_at_call 46
 refine (fcompare_any p1 q1 p2 q2 sx1 tx1 sx2 tx2 Ax1 Bx1 Ax2 Bx2 nx1 cx1 mx1 dx1 nx2 cx2 mx2 dx2 v3 (PF.new HPX1w1.out HX3.out) (PF.new HPX2w1.out HX3.out) HF1.out.1.1.1 HF2.out.1.1.1 HF1.out.1.2.1 HF1.out.1.2.2 HF2.out.1.2.1 HF2.out.1.2.2).mono ?_
 rw [HCB.out]
 rintro e v4 ⟨rfl, hb⟩
 have HB4 := hJ hb
 clear hb
 go_wp2_with fail
 have HX4 := hJ (bt HX3.out HB4.out)
 clear hHeld
 refine hK.out _ _ (HS3.out _ HX4.out) (fun hHeld => ?_)
 clear hK K
 try simp only [PT]
 refine tq 7 ?_
 try simp only [PT]
 refine wpAnyH_done (by kernel_rfl) ?_ _
 clear hHeld
 go_upto_region 20 with fail
 go_cut [140] (fun v wx => v = .bool false ∧ Below v4.heap.size v4 wx)
 case first =>
  rcases (show ¬ ca ≤ 0 ∨ (ca ≤ 0 ∧ ¬ cb ≤ 0) ∨ (ca ≤ 0 ∧ cb ≤ 0) by omega) with h1 | ⟨h1, h2⟩ | ⟨h1, h2⟩
  ·have HD1 := hJ (decide_eq_false h1)
   clear h1
   have HS5 : Hid (∀ w', Below v4.heap.size v4 w' → (fun w' : World => Below v4.heap.size v4 w') w') := hJ (fun w' hb => hb)
   go_wp2_with fail
   obtain ⟨v5, hv5⟩ := nmz (World.drew v4)
   have HX5 := hJ (show Below v4.heap.size v4 v5 by rw [← hv5]; exact (Below.refl _ _).drew)
   refine wp_region_held_drew (S := (fun w' : World => Below v4.heap.size v4 w')) (by kernel_rfl) ?_ (fun hHeld => ?_)
   ·rw [hv5]
    exact HS5.out _ HX5.out
   rw [hv5] at hHeld ⊢
   clear hv5
   refine tq 0 ?_
   try simp only [PT]
   refine tk 1 (.bool false) ?_ ?_
   ·intro w hSw
    (try dsimp only at hSw)
    go_simp
    first | (rw [HD1.out]) | (have hd := HD1.out; simp only [decide_eq_true_eq, decide_eq_false_iff_not] at hd; first | (simp [hd]; done) | (simp [hd]; omega) | (simp; omega)) | (have hd := HD1.out; simpa using hd)
   try simp only [PT]
   refine tq 2 ?_
   try simp only [PT]
   refine wpAnyH_take (i := 3) (v := undef) rfl (by kernel_rfl) (by kernel_rfl) (by kernel_rfl) (fun _ _ _ h => h) (Or.inr ⟨by kernel_rfl, rfl⟩) (by assumption) ?_
   try simp only [PT]
   refine wpAnyH_take (i := 4) (v := undef) rfl (by kernel_rfl) (by kernel_rfl) (by kernel_rfl) (fun _ _ _ h => h) (Or.inr ⟨by kernel_rfl, rfl⟩) (by assumption) ?_
   try simp only [PT]
   refine tq 5 ?_
   try simp only [PT]
   refine tq 6 ?_
   try simp only [PT]
   refine wpAnyH_take (i := 7) (v := undef) rfl (by kernel_rfl) (by kernel_rfl) (by kernel_rfl) (fun _ _ _ h => h) (Or.inr ⟨by kernel_rfl, rfl⟩) (by assumption) ?_
   try simp only [PT]
   refine wpAnyH_take (i := 8) (v := undef) rfl (by kernel_rfl) (by kernel_rfl) (by kernel_rfl) (fun _ _ _ h => h) (Or.inr ⟨by kernel_rfl, rfl⟩) (by assumption) ?_
   try simp only [PT]
   refine wpAnyH_take (i := 9) (v := undef) rfl (by kernel_rfl) (by kernel_rfl) (by kernel_rfl) (fun _ _ _ h => h) (Or.inr ⟨by kernel_rfl, rfl⟩) (by assumption) ?_
   try simp only [PT]
   refine wpAnyH_take (i := 10) (v := undef) rfl (by kernel_rfl) (by kernel_rfl) (by kernel_rfl) (fun _ _ _ h => h) (Or.inr ⟨by kernel_rfl, rfl⟩) (by assumption) ?_
   try simp only [PT]
   refine wpAnyH_take (i := 11) (v := undef) rfl (by kernel_rfl) (by kernel_rfl) (by kernel_rfl) (fun _ _ _ h => h) (Or.inr ⟨by kernel_rfl, rfl⟩) (by assumption) ?_
   try simp only [PT]
   refine wpAnyH_take (i := 12) (v := undef) rfl (by kernel_rfl) (by kernel_rfl) (by kernel_rfl) (fun _ _ _ h => h) (Or.inr ⟨by kernel_rfl, rfl⟩) (by assumption) ?_
   try simp only [PT]
   refine wpAnyH_take (i := 13) (v := undef) rfl (by kernel_rfl) (by kernel_rfl) (by kernel_rfl) (fun _ _ _ h => h) (Or.inr ⟨by kernel_rfl, rfl⟩) (by assumption) ?_
   try simp only [PT]
   refine wpAnyH_take (i := 14) (v := undef) rfl (by kernel_rfl) (by kernel_rfl) (by kernel_rfl) (fun _ _ _ h => h) (Or.inr ⟨by kernel_rfl, rfl⟩) (by assumption) ?_
   try simp only [PT]
   refine tq 15 ?_
   try simp only [PT]
   refine wpAnyH_done (by kernel_rfl) ?_ _
   clear hHeld
   go_wp2_with fail
   go_meet
   exact ⟨rfl, HX5.out⟩
  ·have HD1 := hJ (decide_eq_true h1)
   have HD2 := hJ (decide_eq_false h2)
   clear h1 h2
   have HS6 : Hid (∀ w', Below v4.heap.size v4 w' → (fun w' : World => Below v4.heap.size v4 w') w') := hJ (fun w' hb => hb)
   go_wp2_with fail
   obtain ⟨v6, hv6⟩ := nmz (World.drew v4)
   have HX6 := hJ (show Below v4.heap.size v4 v6 by rw [← hv6]; exact (Below.refl _ _).drew)
   refine wp_region_held_drew (S := (fun w' : World => Below v4.heap.size v4 w')) (by kernel_rfl) ?_ (fun hHeld => ?_)
   ·rw [hv6]
    exact HS6.out _ HX6.out
   rw [hv6] at hHeld ⊢
   clear hv6
   refine tq 0 ?_
   try simp only [PT]
   refine tk 1 (.bool true) ?_ ?_
   ·intro w hSw
    (try dsimp only at hSw)
    go_simp
    first | (rw [HD1.out]) | (have hd := HD1.out; simp only [decide_eq_true_eq, decide_eq_false_iff_not] at hd; first | (simp [hd]; done) | (simp [hd]; omega) | (simp; omega)) | (have hd := HD1.out; simpa using hd)
   try simp only [PT]
   refine tq 2 ?_
   try simp only [PT]
   refine tq 3 ?_
   try simp only [PT]
   refine tk 4 (.bool false) ?_ ?_
   ·intro w hSw
    (try dsimp only at hSw)
    go_simp
    first | (rw [HD2.out]) | (have hd := HD2.out; simp only [decide_eq_true_eq, decide_eq_false_iff_not] at hd; first | (simp [hd]; done) | (simp [hd]; omega) | (simp; omega)) | (have hd := HD2.out; simpa using hd)
   try simp only [PT]
   refine tq 5 ?_
   try simp only [PT]
   refine tq 6 ?_
   try simp only [PT]
   refine wpAnyH_take (i := 7) (v := undef) rfl (by kernel_rfl) (by kernel_rfl) (by kernel_rfl) (fun _ _ _ h => h) (Or.inr ⟨by kernel_rfl, rfl⟩) (by assumption) ?_
   try simp only [PT]
   refine wpAnyH_take (i := 8) (v := undef) rfl (by kernel_rfl) (by kernel_rfl) (by kernel_rfl) (fun _ _ _ h => h) (Or.inr ⟨by kernel_rfl, rfl⟩) (by assumption) ?_
   try simp only [PT]
   refine wpAnyH_take (i := 9) (v := undef) rfl (by kernel_rfl) (by kernel_rfl) (by kernel_rfl) (fun _ _ _ h => h) (Or.inr ⟨by kernel_rfl, rfl⟩) (by assumption) ?_
   try simp only [PT]
   refine wpAnyH_take (i := 10) (v := undef) rfl (by kernel_rfl) (by kernel_rfl) (by kernel_rfl) (fun _ _ _ h => h) (Or.inr ⟨by kernel_rfl, rfl⟩) (by assumption) ?_
   try simp only [PT]
   refine wpAnyH_take (i := 11) (v := undef) rfl (by kernel_rfl) (by kernel_rfl) (by kernel_rfl) (fun _ _ _ h => h) (Or.inr ⟨by kernel_rfl, rfl⟩) (by assumption) ?_
   try simp only [PT]
   refine wpAnyH_take (i := 12) (v := undef) rfl (by kernel_rfl) (by kernel_rfl) (by kernel_rfl) (fun _ _ _ h => h) (Or.inr ⟨by kernel_rfl, rfl⟩) (by assumption) ?_
   try simp only [PT]
   refine wpAnyH_take (i := 13) (v := undef) rfl (by kernel_rfl) (by kernel_rfl) (by kernel_rfl) (fun _ _ _ h => h) (Or.inr ⟨by kernel_rfl, rfl⟩) (by assumption) ?_
   try simp only [PT]
   refine wpAnyH_take (i := 14) (v := undef) rfl (by kernel_rfl) (by kernel_rfl) (by kernel_rfl) (fun _ _ _ h => h) (Or.inr ⟨by kernel_rfl, rfl⟩) (by assumption) ?_
   try simp only [PT]
   refine tq 15 ?_
   try simp only [PT]
   refine wpAnyH_done (by kernel_rfl) ?_ _
   clear hHeld
   go_wp2_with fail
   go_meet
   exact ⟨rfl, HX6.out⟩
  ·have HD3 := hJ (show decide (0 < cc) = false by have := HTR.out h1 h2; exact decide_eq_false (by omega))
   have HD1 := hJ (decide_eq_true h1)
   have HD2 := hJ (decide_eq_true h2)
   clear h1 h2
   have HOXw2 := hJ (OwnR.new HOXw1.out HX4.out)
   have HS7 : Hid (∀ w', Below v4.heap.size v4 w' → (fun w' : World => w'.cell? ⟨gx, 0, none⟩ = some (.bool sx0) ∧ w'.cell? ⟨gx, 1, none⟩ = some (.slice Ax0 nx0 cx0) ∧ w'.cell? ⟨gx, 2, none⟩ = some (.bool tx0) ∧ w'.cell? ⟨gx, 3, none⟩ = some (.slice Bx0 mx0 dx0) ∧ w'.cell? ⟨gx, 8, none⟩ = some (.bool sx2) ∧ w'.cell? ⟨gx, 9, none⟩ = some (.slice Ax2 nx2 cx2) ∧ w'.cell? ⟨gx, 10, none⟩ = some (.bool tx2) ∧ w'.cell? ⟨gx, 11, none⟩ = some (.slice Bx2 mx2 dx2) ∧ Below v4.heap.size v4 w') w') := hJ (fun w' hb => ⟨(OwnR.new HOXw2.out hb).at 0 rfl, (OwnR.new HOXw2.out hb).at 1 rfl, (OwnR.new HOXw2.out hb).at 2 rfl, (OwnR.new HOXw2.out hb).at 3 rfl, (OwnR.new HOXw2.out hb).at 8 rfl, (OwnR.new HOXw2.out hb).at 9 rfl, (OwnR.new HOXw2.out hb).at 10 rfl, (OwnR.new HOXw2.out hb).at 11 rfl, hb⟩)
   have HC0_2 := hJ (bt HX2.out HX4.out)
   have HPX0w2 := hJ (PF.new HPX0.out HC0_2.out)
   have HPX2w2 := hJ (PF.new HPX2w1.out HX4.out)
   go_wp2_with fail
   obtain ⟨v7, hv7⟩ := nmz (World.drew v4)
   have HX7 := hJ (show Below v4.heap.size v4 v7 by rw [← hv7]; exact (Below.refl _ _).drew)
   refine wp_region_held_drew (S := (fun w' : World => w'.cell? ⟨gx, 0, none⟩ = some (.bool sx0) ∧ w'.cell? ⟨gx, 1, none⟩ = some (.slice Ax0 nx0 cx0) ∧ w'.cell? ⟨gx, 2, none⟩ = some (.bool tx0) ∧ w'.cell? ⟨gx, 3, none⟩ = some (.slice Bx0 mx0 dx0) ∧ w'.cell? ⟨gx, 8, none⟩ = some (.bool sx2) ∧ w'.cell? ⟨gx, 9, none⟩ = some (.slice Ax2 nx2 cx2) ∧ w'.cell? ⟨gx, 10, none⟩ = some (.bool tx2) ∧ w'.cell? ⟨gx, 11, none⟩ = some (.slice Bx2 mx2 dx2) ∧ Below v4.heap.size v4 w')) (by kernel_rfl) ?_ (fun hHeld => ?_)
   ·rw [hv7]
    exact HS7.out _ HX7.out
   rw [hv7] at hHeld ⊢
   clear hv7
   refine tq 0 ?_
   try simp only [PT]
   refine tk 1 (.bool true) ?_ ?_
   ·intro w hSw
    (try dsimp only at hSw)
    go_simp
    first | (rw [HD1.out]) | (have hd := HD1.out; simp only [decide_eq_true_eq, decide_eq_false_iff_not] at hd; first | (simp [hd]; done) | (simp [hd]; omega) | (simp; omega)) | (have hd := HD1.out; simpa using hd)
   try simp only [PT]
   refine tq 2 ?_
   try simp only [PT]
   refine tq 3 ?_
   try simp only [PT]
   refine tk 4 (.bool true) ?_ ?_
   ·intro w hSw
    (try dsimp only at hSw)
    go_simp
    first | (rw [HD2.out]) | (have hd := HD2.out; simp only [decide_eq_true_eq, decide_eq_false_iff_not] at hd; first | (simp [hd]; done) | (simp [hd]; omega) | (simp; omega)) | (have hd := HD2.out; simpa using hd)
   try simp only [PT]
   refine tq 5 ?_
   try simp only [PT]
   refine tq 6 ?_
   try simp only [PT]
   refine tq 7 ?_
   try simp only [PT]
   refine tq 8 ?_
   try simp only [PT]
   refine tq 9 ?_
   try simp only [PT]
   refine tq 10 ?_
   try simp only [PT]
   refine tq 11 ?_
   try simp only [PT]
   refine tq 12 ?_
   try simp only [PT]
   refine wpAnyH_ready (rs := [13]) (by kernel_rfl) (by simp) ?_
   refine .cons rfl (fun K hK => ?_) .nil
   go_simp
   go_at_call 46
   refine (fcompare_any p0 q0 p2 q2 sx0 tx0 sx2 tx2 Ax0 Bx0 Ax2 Bx2 nx0 cx0 mx0 dx0 nx2 cx2 mx2 dx2 v7 (PF.new HPX0w2.out HX7.out) (PF.new HPX2w2.out HX7.out) HF0.out.1.1.1 HF2.out.1.1.1 HF0.out.1.2.1 HF0.out.1.2.2 HF2.out.1.2.1 HF2.out.1.2.2).mono ?_
   rw [HCC.out]
   rintro e v8 ⟨rfl, hb⟩
   have HB8 := hJ hb
   clear hb
   go_wp2_with fail
   have HX8 := hJ (bt HX7.out HB8.out)
   clear hHeld
   refine hK.out _ _ (HS7.out _ HX8.out) (fun hHeld => ?_)
   clear hK K
   try simp only [PT]
   refine tk 14 (.bool false) ?_ ?_
   ·intro w hSw
    (try dsimp only at hSw)
    go_simp
    first | (rw [HD3.out]) | (have hd := HD3.out; simp only [decide_eq_true_eq, decide_eq_false_iff_not] at hd; first | (simp [hd]; done) | (simp [hd]; omega) | (simp; omega)) | (have hd := HD3.out; simpa using hd)
   try simp only [PT]
   refine tq 15 ?_
   try simp only [PT]
   refine wpAnyH_done (by kernel_rfl) ?_ _
   clear hHeld
   go_wp2_with fail
   go_meet
   exact ⟨rfl, HX8.out⟩
 case rest =>
  obtain ⟨rfl, hbel⟩ := hcut
  have HB9 := hJ hbel
  obtain ⟨wl9, rfl⟩ := nm_world hbel
  clear hbel
  have hv := vl_add (vl_self HF0.out.1.1 HF0.out.2.1 HF0.out.2.2) (vl_self HF2.out.1.1 HF2.out.2.1 HF2.out.2.2) (by decide)
  obtain ⟨P11, hP⟩ := nmz (adP p0 q0 p2 q2)
  obtain ⟨Q11, hQ⟩ := nmz (adQ p0 q0 p2 q2)
  rw [hP, hQ] at hv
  have HCD11 := hJ hv.1
  have HVL11 := hJ (show Vl 4003 P11 Q11 (p0 * q2 + p2 * q0) (q0 * q2) from hv.2)
  have HNP11 := hJ hP
  have HNQ11 := hJ hQ
  clear hv hP hQ
  have HC1_3 := hJ (bt HX4.out HB9.out)
  have HOXw3 := hJ (OwnR.new HOXw1.out HC1_3.out)
  have HS10 : Hid (∀ w', Below wl9.heap.size wl9 w' → (fun w' : World => w'.cell? ⟨gx, 0, none⟩ = some (.bool sx0) ∧ w'.cell? ⟨gx, 1, none⟩ = some (.slice Ax0 nx0 cx0) ∧ w'.cell? ⟨gx, 2, none⟩ = some (.bool tx0) ∧ w'.cell? ⟨gx, 3, none⟩ = some (.slice Bx0 mx0 dx0) ∧ w'.cell? ⟨gx, 8, none⟩ = some (.bool sx2) ∧ w'.cell? ⟨gx, 9, none⟩ = some (.slice Ax2 nx2 cx2) ∧ w'.cell? ⟨gx, 10, none⟩ = some (.bool tx2) ∧ w'.cell? ⟨gx, 11, none⟩ = some (.slice Bx2 mx2 dx2) ∧ Below wl9.heap.size wl9 w') w') := hJ (fun w' hb => ⟨(OwnR.new HOXw3.out hb).at 0 rfl, (OwnR.new HOXw3.out hb).at 1 rfl, (OwnR.new HOXw3.out hb).at 2 rfl, (OwnR.new HOXw3.out hb).at 3 rfl, (OwnR.new HOXw3.out hb).at 8 rfl, (OwnR.new HOXw3.out hb).at 9 rfl, (OwnR.new HOXw3.out hb).at 10 rfl, (OwnR.new HOXw3.out hb).at 11 rfl, hb⟩)
  have HC0_3 := hJ (bt (bt HX2.out HX4.out) HB9.out)
  have HPX0w3 := hJ (PF.new HPX0.out HC0_3.out)
  have HPX2w3 := hJ (PF.new HPX2w1.out HC1_3.out)
  go_wp2_with fail
  obtain ⟨v10, hv10⟩ := nmz (World.drew wl9)
  have HX10 := hJ (show Below wl9.heap.size wl9 v10 by rw [← hv10]; exact (Below.refl _ _).drew)
  refine wp_region_held_drew (S := (fun w' : World => w'.cell? ⟨gx, 0, none⟩ = some (.bool sx0) ∧ w'.cell? ⟨gx, 1, none⟩ = some (.slice Ax0 nx0 cx0) ∧ w'.cell? ⟨gx, 2, none⟩ = some (.bool tx0) ∧ w'.cell? ⟨gx, 3, none⟩ = some (.slice Bx0 mx0 dx0) ∧ w'.cell? ⟨gx, 8, none⟩ = some (.bool sx2) ∧ w'.cell? ⟨gx, 9, none⟩ = some (.slice Ax2 nx2 cx2) ∧ w'.cell? ⟨gx, 10, none⟩ = some (.bool tx2) ∧ w'.cell? ⟨gx, 11, none⟩ = some (.slice Bx2 mx2 dx2) ∧ Below wl9.heap.size wl9 w')) (by kernel_rfl) ?_ (fun hHeld => ?_)
  ·rw [hv10]
   exact HS10.out _ HX10.out
  rw [hv10] at hHeld ⊢
  clear hv10
  refine tq 0 ?_
  try simp only [PT]
  refine tq 1 ?_
  try simp only [PT]
  refine tq 2 ?_
  try simp only [PT]
  refine tq 3 ?_
  try simp only [PT]
  refine tq 4 ?_
  try simp only [PT]
  refine tq 5 ?_
  try simp only [PT]
  refine wpAnyH_name (fun F hF a0 ha0 L0 hL0 => ?_)
  have J22_6_10 : ∀ s12 A12 n12 c12 t12 B12 m12 d12 g22_10 v, Hid (Below wl9.heap.size wl9 v) → Hid (PF v s12 A12 n12 c12 t12 B12 m12 d12 P11 Q11) → Hid (BX 35 v g22_10 #[.bool false, .slice none 0 0, .bool false, .slice none 0 0]) → Hid (wl9.heap.size ≤ g22_10) → F 2 (Array.setIfInBounds (Array.setIfInBounds (Array.setIfInBounds (Array.setIfInBounds (Array.setIfInBounds L0 6 true) 10 true) 7 true) 8 true) 9 true) (Act.put (Act.put (Act.put (Act.put (Act.put a0 (some 148) (.tuple #[.agg #[.bool s12, .slice A12 n12 c12, .bool t12, .slice B12 m12 d12], .int .i64 0])) (some 11) (.pointer (some ⟨g22_10, 0, none⟩))) (some 141) (.tuple #[.agg #[.bool s12, .slice A12 n12 c12, .bool t12, .slice B12 m12 d12], .int .i64 0])) (some 149) (.agg #[.bool s12, .slice A12 n12 c12, .bool t12, .slice B12 m12 d12])) (some 150) (.int .i64 0)) v := by
   intro s12 A12 n12 c12 t12 B12 m12 d12 g22_10 v HXj HZ6hr12j HPg22_10j HGg22_10j
   subst hF ha0 hL0
   simp only [PT] at  ⊢
   have hHeld := HS10.out _ HXj.out
   refine wpAnyH_ready (rs := [11]) (by kernel_rfl) (by simp) ?_
   refine .cons rfl (fun K hK => ?_) .nil
   have z11_0 := HPg22_10j.out.cell 0 rfl
   have y11_0 := HPg22_10j.out.frozen 0
   have z11_1 := HPg22_10j.out.cell 1 rfl
   have y11_1 := HPg22_10j.out.frozen 1
   have z11_2 := HPg22_10j.out.cell 2 rfl
   have y11_2 := HPg22_10j.out.frozen 2
   have z11_3 := HPg22_10j.out.cell 3 rfl
   have y11_3 := HPg22_10j.out.frozen 3
   have z11 := HPg22_10j.out.lt
   go_simp
   obtain ⟨v11, hV⟩ := nmz (World.setCell (World.setCell (World.setCell (World.setCell v ⟨g22_10, 0, none⟩ (.bool s12)) ⟨g22_10, 1, none⟩ (.slice A12 n12 c12)) ⟨g22_10, 2, none⟩ (.bool t12)) ⟨g22_10, 3, none⟩ (.slice B12 m12 d12))
   rw [hV]
   have HE11 := hJ (show sto v g22_10 0 [.bool s12, .slice A12 n12 c12, .bool t12, .slice B12 m12 d12] = v11 from hV)
   clear hV z11 z11_0 y11_0 z11_1 y11_1 z11_2 y11_2 z11_3 y11_3
   have HX11 := hJ (show Below wl9.heap.size wl9 v11 by rw [← HE11.out]; exact below_sto HXj.out HGg22_10j.out _ _)
   have HZ11_0 := hJ (show PF v11 s12 A12 n12 c12 t12 B12 m12 d12 P11 Q11 by rw [← HE11.out]; exact PF.sto HZ6hr12j.out HPg22_10j.out rfl _ _)
   have HP11g22_10 := hJ (show BX 35 v11 g22_10 #[.bool s12, .slice A12 n12 c12, .bool t12, .slice B12 m12 d12] by rw [← HE11.out]; exact BX.put HPg22_10j.out _ _)
   clear hHeld
   refine hK.out _ _ (HS10.out _ HX11.out) (fun hHeld => ?_)
   clear hK K
   try simp only [PT]
   refine tq 12 ?_
   try simp only [PT]
   refine wpAnyH_done (by kernel_rfl) ?_ _
   clear hHeld
   have HL12 := hJ (show g22_10 < v11.heap.size from HP11g22_10.out.lt)
   have hv := vl_add (vl_self HF1.out.1.1 HF1.out.2.1 HF1.out.2.2) (vl_self HF2.out.1.1 HF2.out.2.1 HF2.out.2.2) (by decide)
   obtain ⟨P13, hP⟩ := nmz (adP p1 q1 p2 q2)
   obtain ⟨Q13, hQ⟩ := nmz (adQ p1 q1 p2 q2)
   rw [hP, hQ] at hv
   have HCD13 := hJ hv.1
   have HVL13 := hJ (show Vl 4003 P13 Q13 (p1 * q2 + p2 * q1) (q1 * q2) from hv.2)
   have HNP13 := hJ hP
   have HNQ13 := hJ hQ
   clear hv hP hQ
   have HOXw4 := hJ (OwnR.new HOXw3.out HX11.out)
   have HS13 : Hid (∀ w', Below v11.heap.size v11 w' → (fun w' : World => w'.cell? ⟨gx, 4, none⟩ = some (.bool sx1) ∧ w'.cell? ⟨gx, 5, none⟩ = some (.slice Ax1 nx1 cx1) ∧ w'.cell? ⟨gx, 6, none⟩ = some (.bool tx1) ∧ w'.cell? ⟨gx, 7, none⟩ = some (.slice Bx1 mx1 dx1) ∧ w'.cell? ⟨gx, 8, none⟩ = some (.bool sx2) ∧ w'.cell? ⟨gx, 9, none⟩ = some (.slice Ax2 nx2 cx2) ∧ w'.cell? ⟨gx, 10, none⟩ = some (.bool tx2) ∧ w'.cell? ⟨gx, 11, none⟩ = some (.slice Bx2 mx2 dx2) ∧ Below v11.heap.size v11 w') w') := hJ (fun w' hb => ⟨(OwnR.new HOXw4.out hb).at 4 rfl, (OwnR.new HOXw4.out hb).at 5 rfl, (OwnR.new HOXw4.out hb).at 6 rfl, (OwnR.new HOXw4.out hb).at 7 rfl, (OwnR.new HOXw4.out hb).at 8 rfl, (OwnR.new HOXw4.out hb).at 9 rfl, (OwnR.new HOXw4.out hb).at 10 rfl, (OwnR.new HOXw4.out hb).at 11 rfl, hb⟩)
   have HC1_4 := hJ (bt HC1_3.out HX11.out)
   have HPX1w4 := hJ (PF.new HPX1w1.out HC1_4.out)
   have HPX2w4 := hJ (PF.new HPX2w3.out HX11.out)
   go_wp2_with fail
   obtain ⟨v13, hv13⟩ := nmz (World.drew v11)
   have HX13 := hJ (show Below v11.heap.size v11 v13 by rw [← hv13]; exact (Below.refl _ _).drew)
   refine wp_region_held_drew (S := (fun w' : World => w'.cell? ⟨gx, 4, none⟩ = some (.bool sx1) ∧ w'.cell? ⟨gx, 5, none⟩ = some (.slice Ax1 nx1 cx1) ∧ w'.cell? ⟨gx, 6, none⟩ = some (.bool tx1) ∧ w'.cell? ⟨gx, 7, none⟩ = some (.slice Bx1 mx1 dx1) ∧ w'.cell? ⟨gx, 8, none⟩ = some (.bool sx2) ∧ w'.cell? ⟨gx, 9, none⟩ = some (.slice Ax2 nx2 cx2) ∧ w'.cell? ⟨gx, 10, none⟩ = some (.bool tx2) ∧ w'.cell? ⟨gx, 11, none⟩ = some (.slice Bx2 mx2 dx2) ∧ Below v11.heap.size v11 w')) (by kernel_rfl) ?_ (fun hHeld => ?_)
   ·rw [hv13]
    exact HS13.out _ HX13.out
   rw [hv13] at hHeld ⊢
   clear hv13
   refine tq 0 ?_
   try simp only [PT]
   refine tq 1 ?_
   try simp only [PT]
   refine tq 2 ?_
   try simp only [PT]
   refine tq 3 ?_
   try simp only [PT]
   refine tq 4 ?_
   try simp only [PT]
   refine tq 5 ?_
   try simp only [PT]
   refine wpAnyH_name (fun F hF a0 ha0 L0 hL0 => ?_)
   have J23_6_10 : ∀ s14 A14 n14 c14 t14 B14 m14 d14 g23_10 v, Hid (Below v11.heap.size v11 v) → Hid (PF v s14 A14 n14 c14 t14 B14 m14 d14 P13 Q13) → Hid (BX 35 v g23_10 #[.bool false, .slice none 0 0, .bool false, .slice none 0 0]) → Hid (v11.heap.size ≤ g23_10) → F 2 (Array.setIfInBounds (Array.setIfInBounds (Array.setIfInBounds (Array.setIfInBounds (Array.setIfInBounds L0 6 true) 10 true) 7 true) 8 true) 9 true) (Act.put (Act.put (Act.put (Act.put (Act.put a0 (some 158) (.tuple #[.agg #[.bool s14, .slice A14 n14 c14, .bool t14, .slice B14 m14 d14], .int .i64 0])) (some 13) (.pointer (some ⟨g23_10, 0, none⟩))) (some 151) (.tuple #[.agg #[.bool s14, .slice A14 n14 c14, .bool t14, .slice B14 m14 d14], .int .i64 0])) (some 159) (.agg #[.bool s14, .slice A14 n14 c14, .bool t14, .slice B14 m14 d14])) (some 160) (.int .i64 0)) v := by
    intro s14 A14 n14 c14 t14 B14 m14 d14 g23_10 v HXj HZ6hr14j HPg23_10j HGg23_10j
    subst hF ha0 hL0
    simp only [PT] at  ⊢
    have hHeld := HS13.out _ HXj.out
    refine wpAnyH_ready (rs := [11]) (by kernel_rfl) (by simp) ?_
    refine .cons rfl (fun K hK => ?_) .nil
    have z14_0 := HPg23_10j.out.cell 0 rfl
    have y14_0 := HPg23_10j.out.frozen 0
    have z14_1 := HPg23_10j.out.cell 1 rfl
    have y14_1 := HPg23_10j.out.frozen 1
    have z14_2 := HPg23_10j.out.cell 2 rfl
    have y14_2 := HPg23_10j.out.frozen 2
    have z14_3 := HPg23_10j.out.cell 3 rfl
    have y14_3 := HPg23_10j.out.frozen 3
    have z14 := HPg23_10j.out.lt
    go_simp
    obtain ⟨v14, hV⟩ := nmz (World.setCell (World.setCell (World.setCell (World.setCell v ⟨g23_10, 0, none⟩ (.bool s14)) ⟨g23_10, 1, none⟩ (.slice A14 n14 c14)) ⟨g23_10, 2, none⟩ (.bool t14)) ⟨g23_10, 3, none⟩ (.slice B14 m14 d14))
    rw [hV]
    have HE14 := hJ (show sto v g23_10 0 [.bool s14, .slice A14 n14 c14, .bool t14, .slice B14 m14 d14] = v14 from hV)
    clear hV z14 z14_0 y14_0 z14_1 y14_1 z14_2 y14_2 z14_3 y14_3
    have HX14 := hJ (show Below v11.heap.size v11 v14 by rw [← HE14.out]; exact below_sto HXj.out HGg23_10j.out _ _)
    have HZ14_0 := hJ (show PF v14 s14 A14 n14 c14 t14 B14 m14 d14 P13 Q13 by rw [← HE14.out]; exact PF.sto HZ6hr14j.out HPg23_10j.out rfl _ _)
    have HP14g23_10 := hJ (show BX 35 v14 g23_10 #[.bool s14, .slice A14 n14 c14, .bool t14, .slice B14 m14 d14] by rw [← HE14.out]; exact BX.put HPg23_10j.out _ _)
    clear hHeld
    refine hK.out _ _ (HS13.out _ HX14.out) (fun hHeld => ?_)
    clear hK K
    try simp only [PT]
    refine tq 12 ?_
    try simp only [PT]
    refine wpAnyH_done (by kernel_rfl) ?_ _
    clear hHeld
    have HL15 := hJ (show g23_10 < v14.heap.size from HP14g23_10.out.lt)
    have HP11g22_10w5 := hJ (BX.new HP11g22_10.out HX14.out)
    obtain ⟨cl16, cl17, cl18, cl19⟩ := HP11g22_10w5.out.c4 0 1 2 3 rfl rfl rfl rfl
    obtain ⟨cl20, cl21, cl22, cl23⟩ := HP14g23_10.out.c4 0 1 2 3 rfl rfl rfl rfl
    have HKA15 := hJ (show cmpI (P11 * Q13) (P13 * Q11) = ca by rw [add_keeps HF0.out.1.1.1 HF1.out.1.1.1 HF2.out.1.1.1 HVL11.out HVL13.out]; exact HCA.out)
    have HZ11_0w5 := hJ (PF.new HZ11_0.out HX14.out)
    go_wp2_with fail
    clear cl16 cl17 cl18 cl19 cl20 cl21 cl22 cl23
    refine (fcompare_any P11 Q11 P13 Q13 s12 t12 s14 t14 A12 B12 A14 B14 n12 c12 m12 d12 n14 c14 m14 d14 v14 HZ11_0w5.out HZ14_0.out (vl_fr HVL11.out (by decide)).1.1 (vl_fr HVL13.out (by decide)).1.1 (vl_fr HVL11.out (by decide)).2.1 (vl_fr HVL11.out (by decide)).2.2 (vl_fr HVL13.out (by decide)).2.1 (vl_fr HVL13.out (by decide)).2.2).mono ?_
    rw [HKA15.out]
    rintro e w24 ⟨rfl, hb⟩
    have HB24 := hJ hb
    clear hb
    have HC4_6 := hJ (bt HX14.out HB24.out)
    have HOXw6 := hJ (OwnR.new HOXw4.out HC4_6.out)
    have HC3_6 := hJ (bt (bt HX11.out HX14.out) HB24.out)
    have HPX0w6 := hJ (PF.new HPX0w3.out HC3_6.out)
    have HPX1w6 := hJ (PF.new HPX1w4.out HC4_6.out)
    have HPX2w6 := hJ (PF.new HPX2w4.out HC4_6.out)
    have HC0_6 := hJ (bt (bt (bt HC0_3.out HX11.out) HX14.out) HB24.out)
    go_upto_region 26 with fail
    refine wp_mono (order_t26 p0 q0 p1 q1 p2 q2 B gx cpx sx0 Ax0 nx0 cx0 tx0 Bx0 mx0 dx0 sx1 Ax1 nx1 cx1 tx1 Bx1 mx1 dx1 sx2 Ax2 nx2 cx2 tx2 Bx2 mx2 dx2 w0 w24 ca cg cz HCA HCG HCZ HZW HF0 HF1 HF2 HOXw6 (hJ HPX0w6.out) (hJ HPX1w6.out) (hJ HPX2w6.out) (hJ (bt HBL.out HC0_6.out)) _ _ (by assumption)) (fun e a w h => by cases e <;> exact h)
   have J23_6 : ∀ s14 A14 n14 c14 t14 B14 m14 d14 v, Hid (Below v11.heap.size v11 v) → Hid (PF v s14 A14 n14 c14 t14 B14 m14 d14 P13 Q13) → F 3 (Array.setIfInBounds (Array.setIfInBounds (Array.setIfInBounds (Array.setIfInBounds L0 6 true) 7 true) 8 true) 9 true) (Act.put (Act.put (Act.put (Act.put a0 (some 158) (.tuple #[.agg #[.bool s14, .slice A14 n14 c14, .bool t14, .slice B14 m14 d14], .int .i64 0])) (some 151) (.tuple #[.agg #[.bool s14, .slice A14 n14 c14, .bool t14, .slice B14 m14 d14], .int .i64 0])) (some 159) (.agg #[.bool s14, .slice A14 n14 c14, .bool t14, .slice B14 m14 d14])) (some 160) (.int .i64 0)) v := by
    intro s14 A14 n14 c14 t14 B14 m14 d14 v HXj HZ6hr14j
    subst hF ha0 hL0
    simp only [PT] at  ⊢
    have hHeld := HS13.out _ HXj.out
    refine wpAnyH_ready (rs := [10]) (by kernel_rfl) (by simp) ?_
    refine .cons rfl (fun K hK => ?_) .nil
    go_simp
    have HB25 := hJ ((Below.refl v.heap.size v).alloc (Nat.le_refl _) (.cells #[.bool false, .slice none 0 0, .bool false, .slice none 0 0] 35))
    have HP25 := hJ (BX.lit v 35 #[.bool false, .slice none 0 0, .bool false, .slice none 0 0])
    obtain ⟨v25, hV⟩ := nmz (World.alloc v (.cells #[.bool false, .slice none 0 0, .bool false, .slice none 0 0] 35))
    obtain ⟨g23_10, hg⟩ := nmz (v.heap.size)
    rw [hV] at HB25 HP25 ⊢
    rw [hg] at HP25 ⊢
    have HG25 := hJ (show v11.heap.size ≤ g23_10 by rw [← hg]; exact HXj.out.size)
    clear hV hg
    have HX25 := hJ (bt HXj.out HB25.out)
    have HZ25_0 := hJ (PF.new HZ6hr14j.out HB25.out)
    clear hHeld
    refine hK.out _ _ (HS13.out _ HX25.out) (fun hHeld => ?_)
    clear hK K
    try simp only [PT]
    exact wpAnyH_cast2 (by kernel_rfl) (by kernel_rfl) (J23_6_10 s14 A14 n14 c14 t14 B14 m14 d14 g23_10 v25 HX25 HZ25_0 HP25 HG25)
   have J23_10 : ∀ g23_10 v, Hid (Below v11.heap.size v11 v) → Hid (BX 35 v g23_10 #[.bool false, .slice none 0 0, .bool false, .slice none 0 0]) → Hid (v11.heap.size ≤ g23_10) → F 6 (Array.setIfInBounds L0 10 true) (Act.put a0 (some 13) (.pointer (some ⟨g23_10, 0, none⟩))) v := by
    intro g23_10 v HXj HPg23_10j HGg23_10j
    subst hF ha0 hL0
    simp only [PT] at  ⊢
    have hHeld := HS13.out _ HXj.out
    refine wpAnyH_ready (rs := [6]) (by kernel_rfl) (by simp) ?_
    refine .cons rfl (fun K hK => ?_) .nil
    go_simp
    go_at_call 33
    refine (fadd_any p1 q1 p2 q2 sx1 tx1 sx2 tx2 Ax1 Bx1 Ax2 Bx2 nx1 cx1 mx1 dx1 nx2 cx2 mx2 dx2 v (PF.new HPX1w4.out HXj.out) (PF.new HPX2w4.out HXj.out) HF1.out.1.1.1 HF2.out.1.1.1 HF1.out.1.2.1 HF1.out.1.2.2 HF2.out.1.2.1 HF2.out.1.2.2).mono ?_
    rw [HNP13.out, HNQ13.out, HCD13.out]
    rintro e v26 ⟨s14, A14, n14, c14, t14, B14, m14, d14, rfl, hr14, hb⟩
    have HB26 := hJ hb
    have HR26hr14 := hJ hr14
    clear hb hr14
    go_wp2_with fail
    have HX26 := hJ (bt HXj.out HB26.out)
    have HP26g23_10 := hJ (BX.new HPg23_10j.out HB26.out)
    clear hHeld
    refine hK.out _ _ (HS13.out _ HX26.out) (fun hHeld => ?_)
    clear hK K
    try simp only [PT]
    refine tq 7 ?_
    try simp only [PT]
    refine tq 8 ?_
    try simp only [PT]
    refine tq 9 ?_
    try simp only [PT]
    exact wpAnyH_cast2 (by kernel_rfl) (by kernel_rfl) (J23_6_10 s14 A14 n14 c14 t14 B14 m14 d14 g23_10 v26 HX26 HR26hr14 HP26g23_10 HGg23_10j)
   subst hF ha0 hL0
   refine wpAnyH_ready (rs := [6, 10]) (by kernel_rfl) (by simp) ?_
   refine .cons rfl (fun K hK => ?_) ?_
   go_simp
   go_at_call 33
   refine (fadd_any p1 q1 p2 q2 sx1 tx1 sx2 tx2 Ax1 Bx1 Ax2 Bx2 nx1 cx1 mx1 dx1 nx2 cx2 mx2 dx2 v13 (PF.new HPX1w4.out HX13.out) (PF.new HPX2w4.out HX13.out) HF1.out.1.1.1 HF2.out.1.1.1 HF1.out.1.2.1 HF1.out.1.2.2 HF2.out.1.2.1 HF2.out.1.2.2).mono ?_
   rw [HNP13.out, HNQ13.out, HCD13.out]
   rintro e v27 ⟨s14, A14, n14, c14, t14, B14, m14, d14, rfl, hr14, hb⟩
   have HB27 := hJ hb
   have HR27hr14 := hJ hr14
   clear hb hr14
   go_wp2_with fail
   have HX27 := hJ (bt HX13.out HB27.out)
   clear hHeld
   refine hK.out _ _ (HS13.out _ HX27.out) (fun hHeld => ?_)
   clear hK K
   try simp only [PT]
   refine tq 7 ?_
   try simp only [PT]
   refine tq 8 ?_
   try simp only [PT]
   refine tq 9 ?_
   try simp only [PT]
   exact wpAnyH_cast2 (by kernel_rfl) (by kernel_rfl) (J23_6 s14 A14 n14 c14 t14 B14 m14 d14 v27 HX27 HR27hr14)
   refine .cons rfl (fun K hK => ?_) .nil
   go_simp
   have HB28 := hJ ((Below.refl v13.heap.size v13).alloc (Nat.le_refl _) (.cells #[.bool false, .slice none 0 0, .bool false, .slice none 0 0] 35))
   have HP28 := hJ (BX.lit v13 35 #[.bool false, .slice none 0 0, .bool false, .slice none 0 0])
   obtain ⟨v28, hV⟩ := nmz (World.alloc v13 (.cells #[.bool false, .slice none 0 0, .bool false, .slice none 0 0] 35))
   obtain ⟨g23_10, hg⟩ := nmz (v13.heap.size)
   rw [hV] at HB28 HP28 ⊢
   rw [hg] at HP28 ⊢
   have HG28 := hJ (show v11.heap.size ≤ g23_10 by rw [← hg]; exact HX13.out.size)
   clear hV hg
   have HX28 := hJ (bt HX13.out HB28.out)
   clear hHeld
   refine hK.out _ _ (HS13.out _ HX28.out) (fun hHeld => ?_)
   clear hK K
   try simp only [PT]
   exact wpAnyH_cast2 (by kernel_rfl) (by kernel_rfl) (J23_10 g23_10 v28 HX28 HP28 HG28)
  have J22_6 : ∀ s12 A12 n12 c12 t12 B12 m12 d12 v, Hid (Below wl9.heap.size wl9 v) → Hid (PF v s12 A12 n12 c12 t12 B12 m12 d12 P11 Q11) → F 3 (Array.setIfInBounds (Array.setIfInBounds (Array.setIfInBounds (Array.setIfInBounds L0 6 true) 7 true) 8 true) 9 true) (Act.put (Act.put (Act.put (Act.put a0 (some 148) (.tuple #[.agg #[.bool s12, .slice A12 n12 c12, .bool t12, .slice B12 m12 d12], .int .i64 0])) (some 141) (.tuple #[.agg #[.bool s12, .slice A12 n12 c12, .bool t12, .slice B12 m12 d12], .int .i64 0])) (some 149) (.agg #[.bool s12, .slice A12 n12 c12, .bool t12, .slice B12 m12 d12])) (some 150) (.int .i64 0)) v := by
   intro s12 A12 n12 c12 t12 B12 m12 d12 v HXj HZ6hr12j
   subst hF ha0 hL0
   simp only [PT] at  ⊢
   have hHeld := HS10.out _ HXj.out
   refine wpAnyH_ready (rs := [10]) (by kernel_rfl) (by simp) ?_
   refine .cons rfl (fun K hK => ?_) .nil
   go_simp
   have HB29 := hJ ((Below.refl v.heap.size v).alloc (Nat.le_refl _) (.cells #[.bool false, .slice none 0 0, .bool false, .slice none 0 0] 35))
   have HP29 := hJ (BX.lit v 35 #[.bool false, .slice none 0 0, .bool false, .slice none 0 0])
   obtain ⟨v29, hV⟩ := nmz (World.alloc v (.cells #[.bool false, .slice none 0 0, .bool false, .slice none 0 0] 35))
   obtain ⟨g22_10, hg⟩ := nmz (v.heap.size)
   rw [hV] at HB29 HP29 ⊢
   rw [hg] at HP29 ⊢
   have HG29 := hJ (show wl9.heap.size ≤ g22_10 by rw [← hg]; exact HXj.out.size)
   clear hV hg
   have HX29 := hJ (bt HXj.out HB29.out)
   have HZ29_0 := hJ (PF.new HZ6hr12j.out HB29.out)
   clear hHeld
   refine hK.out _ _ (HS10.out _ HX29.out) (fun hHeld => ?_)
   clear hK K
   try simp only [PT]
   exact wpAnyH_cast2 (by kernel_rfl) (by kernel_rfl) (J22_6_10 s12 A12 n12 c12 t12 B12 m12 d12 g22_10 v29 HX29 HZ29_0 HP29 HG29)
  have J22_10 : ∀ g22_10 v, Hid (Below wl9.heap.size wl9 v) → Hid (BX 35 v g22_10 #[.bool false, .slice none 0 0, .bool false, .slice none 0 0]) → Hid (wl9.heap.size ≤ g22_10) → F 6 (Array.setIfInBounds L0 10 true) (Act.put a0 (some 11) (.pointer (some ⟨g22_10, 0, none⟩))) v := by
   intro g22_10 v HXj HPg22_10j HGg22_10j
   subst hF ha0 hL0
   simp only [PT] at  ⊢
   have hHeld := HS10.out _ HXj.out
   refine wpAnyH_ready (rs := [6]) (by kernel_rfl) (by simp) ?_
   refine .cons rfl (fun K hK => ?_) .nil
   go_simp
   go_at_call 33
   refine (fadd_any p0 q0 p2 q2 sx0 tx0 sx2 tx2 Ax0 Bx0 Ax2 Bx2 nx0 cx0 mx0 dx0 nx2 cx2 mx2 dx2 v (PF.new HPX0w3.out HXj.out) (PF.new HPX2w3.out HXj.out) HF0.out.1.1.1 HF2.out.1.1.1 HF0.out.1.2.1 HF0.out.1.2.2 HF2.out.1.2.1 HF2.out.1.2.2).mono ?_
   rw [HNP11.out, HNQ11.out, HCD11.out]
   rintro e v30 ⟨s12, A12, n12, c12, t12, B12, m12, d12, rfl, hr12, hb⟩
   have HB30 := hJ hb
   have HR30hr12 := hJ hr12
   clear hb hr12
   go_wp2_with fail
   have HX30 := hJ (bt HXj.out HB30.out)
   have HP30g22_10 := hJ (BX.new HPg22_10j.out HB30.out)
   clear hHeld
   refine hK.out _ _ (HS10.out _ HX30.out) (fun hHeld => ?_)
   clear hK K
   try simp only [PT]
   refine tq 7 ?_
   try simp only [PT]
   refine tq 8 ?_
   try simp only [PT]
   refine tq 9 ?_
   try simp only [PT]
   exact wpAnyH_cast2 (by kernel_rfl) (by kernel_rfl) (J22_6_10 s12 A12 n12 c12 t12 B12 m12 d12 g22_10 v30 HX30 HR30hr12 HP30g22_10 HGg22_10j)
  subst hF ha0 hL0
  refine wpAnyH_ready (rs := [6, 10]) (by kernel_rfl) (by simp) ?_
  refine .cons rfl (fun K hK => ?_) ?_
  go_simp
  go_at_call 33
  refine (fadd_any p0 q0 p2 q2 sx0 tx0 sx2 tx2 Ax0 Bx0 Ax2 Bx2 nx0 cx0 mx0 dx0 nx2 cx2 mx2 dx2 v10 (PF.new HPX0w3.out HX10.out) (PF.new HPX2w3.out HX10.out) HF0.out.1.1.1 HF2.out.1.1.1 HF0.out.1.2.1 HF0.out.1.2.2 HF2.out.1.2.1 HF2.out.1.2.2).mono ?_
  rw [HNP11.out, HNQ11.out, HCD11.out]
  rintro e v31 ⟨s12, A12, n12, c12, t12, B12, m12, d12, rfl, hr12, hb⟩
  have HB31 := hJ hb
  have HR31hr12 := hJ hr12
  clear hb hr12
  go_wp2_with fail
  have HX31 := hJ (bt HX10.out HB31.out)
  clear hHeld
  refine hK.out _ _ (HS10.out _ HX31.out) (fun hHeld => ?_)
  clear hK K
  try simp only [PT]
  refine tq 7 ?_
  try simp only [PT]
  refine tq 8 ?_
  try simp only [PT]
  refine tq 9 ?_
  try simp only [PT]
  exact wpAnyH_cast2 (by kernel_rfl) (by kernel_rfl) (J22_6 s12 A12 n12 c12 t12 B12 m12 d12 v31 HX31 HR31hr12)
  refine .cons rfl (fun K hK => ?_) .nil
  go_simp
  have HB32 := hJ ((Below.refl v10.heap.size v10).alloc (Nat.le_refl _) (.cells #[.bool false, .slice none 0 0, .bool false, .slice none 0 0] 35))
  have HP32 := hJ (BX.lit v10 35 #[.bool false, .slice none 0 0, .bool false, .slice none 0 0])
  obtain ⟨v32, hV⟩ := nmz (World.alloc v10 (.cells #[.bool false, .slice none 0 0, .bool false, .slice none 0 0] 35))
  obtain ⟨g22_10, hg⟩ := nmz (v10.heap.size)
  rw [hV] at HB32 HP32 ⊢
  rw [hg] at HP32 ⊢
  have HG32 := hJ (show wl9.heap.size ≤ g22_10 by rw [← hg]; exact HX10.out.size)
  clear hV hg
  have HX32 := hJ (bt HX10.out HB32.out)
  clear hHeld
  refine hK.out _ _ (HS10.out _ HX32.out) (fun hHeld => ?_)
  clear hK K
  try simp only [PT]
  exact wpAnyH_cast2 (by kernel_rfl) (by kernel_rfl) (J22_10 g22_10 v32 HX32 HP32 HG32)
end Go.Proofs.YtbhnaffbgggabaaGreat
