/- Contracts: area, steps, side of points of any fractions, in opaque values. Conditions: as each statement has them. -/
import Derived.Test.YtbgfmegepekapaaGreatEZ
import Derived.Test.YtbgfmegepekapaaGreatAR
namespace Go.Proofs.YtbgfmegepekapaaGreat
set_option maxRecDepth 100000
set_option maxHeartbeats 12800000
open Go.RowKit
attribute [local go_sem ↓] Go.wp_at_zero Go.wp_at_succ
set_option linter.unusedVariables false
set_option linter.unusedSimpArgs false
/-- A point of any fractions lies in eight values. -/
def PTg (w:World) (a b c d a' b' c' d':Value) (p q r s:Int):Prop:=PFv w a b c d p q∧PFv w a' b' c' d' r s
theorem PTg.new {w w':World} {a b c d a' b' c' d':Value} {p q r s:Int} (h:PTg w a b c d a' b' c' d' p q r s) (hb:Below w.heap.size w w'):PTg w' a b c d a' b' c' d' p q r s:=⟨h.1.new hb,h.2.new hb⟩
def suP (p q r s:Int):Int:=adP p q (-r) s
def suQ (p q r s:Int):Int:=adQ p q (-r) s
def suC (p q r s:Int):Int:=adC p q (-r) s
def prP (a b c d e f g h:Int):Int:=muP (suP a b c d) (suQ a b c d) (suP e f g h) (suQ e f g h)
def prQ (a b c d e f g h:Int):Int:=muQ (suP a b c d) (suQ a b c d) (suP e f g h) (suQ e f g h)
def prC (a b c d e f g h:Int):Int:=muC (suP a b c d) (suQ a b c d) (suP e f g h) (suQ e f g h)
def aE (p0 q0 p1 q1 p2 q2 p3 q3 p4 q4 p5 q5:Int):Int:=feV [suC p2 q2 p0 q0,suC p5 q5 p1 q1,prC p2 q2 p0 q0 p5 q5 p1 q1,suC p3 q3 p1 q1,suC p4 q4 p0 q0,prC p3 q3 p1 q1 p4 q4 p0 q0,suC (prP p2 q2 p0 q0 p5 q5 p1 q1) (prQ p2 q2 p0 q0 p5 q5 p1 q1) (prP p3 q3 p1 q1 p4 q4 p0 q0) (prQ p3 q3 p1 q1 p4 q4 p0 q0)]
def aP (p0 q0 p1 q1 p2 q2 p3 q3 p4 q4 p5 q5:Int):Int:=feP (aE p0 q0 p1 q1 p2 q2 p3 q3 p4 q4 p5 q5) (suP (prP p2 q2 p0 q0 p5 q5 p1 q1) (prQ p2 q2 p0 q0 p5 q5 p1 q1) (prP p3 q3 p1 q1 p4 q4 p0 q0) (prQ p3 q3 p1 q1 p4 q4 p0 q0))
def aQ (p0 q0 p1 q1 p2 q2 p3 q3 p4 q4 p5 q5:Int):Int:=feQ (aE p0 q0 p1 q1 p2 q2 p3 q3 p4 q4 p5 q5) (suQ (prP p2 q2 p0 q0 p5 q5 p1 q1) (prQ p2 q2 p0 q0 p5 q5 p1 q1) (prP p3 q3 p1 q1 p4 q4 p0 q0) (prQ p3 q3 p1 q1 p4 q4 p0 q0))
theorem a_rat {p0 q0 p1 q1 p2 q2 p3 q3 p4 q4 p5 q5:Int} (l0:Low p0 q0) (l1:Low p1 q1) (l2:Low p2 q2) (l3:Low p3 q3) (l4:Low p4 q4) (l5:Low p5 q5) (h:aE p0 q0 p1 q1 p2 q2 p3 q3 p4 q4 p5 q5=0):Low (aP p0 q0 p1 q1 p2 q2 p3 q3 p4 q4 p5 q5) (aQ p0 q0 p1 q1 p2 q2 p3 q3 p4 q4 p5 q5)∧Vq (aP p0 q0 p1 q1 p2 q2 p3 q3 p4 q4 p5 q5) (aQ p0 q0 p1 q1 p2 q2 p3 q3 p4 q4 p5 q5)=arQ (Vq p0 q0) (Vq p1 q1) (Vq p2 q2) (Vq p3 q3) (Vq p4 q4) (Vq p5 q5):=by
 have h2:=area_rat l0 l1 l2 l3 l4 l5 ⟨rfl,rfl,rfl⟩ ⟨rfl,rfl,rfl⟩ ⟨rfl,rfl,rfl⟩ ⟨rfl,rfl,rfl⟩ ⟨rfl,rfl,rfl⟩ ⟨rfl,rfl,rfl⟩ ⟨rfl,rfl,rfl⟩ h
 unfold aP aQ feP feQ
 rw [if_pos h,if_pos h]
 exact h2
theorem areaw_any {p0 q0 p1 q1 p2 q2 p3 q3 p4 q4 p5 q5:Int} {a0 a1 a2 a3 a4 a5 a6 a7:Value} {b0 b1 b2 b3 b4 b5 b6 b7:Value} {c0 c1 c2 c3 c4 c5 c6 c7:Value} (w:World) (ha:PTg w a0 a1 a2 a3 a4 a5 a6 a7 p0 q0 p1 q1) (hb:PTg w b0 b1 b2 b3 b4 b5 b6 b7 p2 q2 p3 q3) (hc:PTg w c0 c1 c2 c3 c4 c5 c6 c7 p4 q4 p5 q5) (f0:Fr p0 q0) (f1:Fr p1 q1) (f2:Fr p2 q2) (f3:Fr p3 q3) (f4:Fr p4 q4) (f5:Fr p5 q5) :
  Calls Tryz.prog 23 #[.agg #[a0,a1,a2,a3,a4,a5,a6,a7],.agg #[b0,b1,b2,b3,b4,b5,b6,b7],.agg #[c0,c1,c2,c3,c4,c5,c6,c7]] w (RetFE (aP p0 q0 p1 q1 p2 q2 p3 q3 p4 q4 p5 q5) (aQ p0 q0 p1 q1 p2 q2 p3 q3 p4 q4 p5 q5) (aE p0 q0 p1 q1 p2 q2 p3 q3 p4 q4 p5 q5) w):=by
 obtain ⟨⟨sa,Aa,na,ca,ta,Ba,ma,ka,rfl,rfl,rfl,rfl,pa⟩,⟨sa',Aa',na',ca',ta',Ba',ma',ka',rfl,rfl,rfl,rfl,pa'⟩⟩:=ha
 obtain ⟨⟨sb,Ab,nb,cb,tb,Bb,mb,kb,rfl,rfl,rfl,rfl,pb⟩,⟨sb',Ab',nb',cb',tb',Bb',mb',kb',rfl,rfl,rfl,rfl,pb'⟩⟩:=hb
 obtain ⟨⟨sc,Ac,nc,cc,tc,Bc,mc,kc,rfl,rfl,rfl,rfl,pc⟩,⟨sc',Ac',nc',cc',tc',Bc',mc',kc',rfl,rfl,rfl,rfl,pc'⟩⟩:=hc
 exact area_any p0 q0 p1 q1 p2 q2 p3 q3 p4 q4 p5 q5 _ _ _ _ _ _ _ _ _ _ _ _ _ _ _ _ _ _ _ _ _ sa Aa na ca ta Ba ma ka sa' Aa' na' ca' ta' Ba' ma' ka' sb Ab nb cb tb Bb mb kb sb' Ab' nb' cb' tb' Bb' mb' kb' sc Ac nc cc tc Bc mc kc sc' Ac' nc' cc' tc' Bc' mc' kc' w pa pa' pb pb' pc pc' f0 f1 f2 f3 f4 f5 ⟨rfl,rfl,rfl⟩ ⟨rfl,rfl,rfl⟩ ⟨rfl,rfl,rfl⟩ ⟨rfl,rfl,rfl⟩ ⟨rfl,rfl,rfl⟩ ⟨rfl,rfl,rfl⟩ ⟨rfl,rfl,rfl⟩
theorem stepsw_any {p0 q0 p1 q1 p2 q2 p3 q3 p4 q4 p5 q5:Int} {a0 a1 a2 a3 a4 a5 a6 a7:Value} {b0 b1 b2 b3 b4 b5 b6 b7:Value} {c0 c1 c2 c3 c4 c5 c6 c7:Value} (w:World) (ha:PTg w a0 a1 a2 a3 a4 a5 a6 a7 p0 q0 p1 q1) (hb:PTg w b0 b1 b2 b3 b4 b5 b6 b7 p2 q2 p3 q3) (hc:PTg w c0 c1 c2 c3 c4 c5 c6 c7 p4 q4 p5 q5) (f0:Fr p0 q0) (f1:Fr p1 q1) (f2:Fr p2 q2) (f3:Fr p3 q3) (f4:Fr p4 q4) (f5:Fr p5 q5) :
  Calls Tryz.prog 24 #[.agg #[a0,a1,a2,a3,a4,a5,a6,a7],.agg #[b0,b1,b2,b3,b4,b5,b6,b7],.agg #[c0,c1,c2,c3,c4,c5,c6,c7]] w (RetFE (aP p0 q0 p1 q1 p2 q2 p3 q3 p4 q4 p5 q5) (aQ p0 q0 p1 q1 p2 q2 p3 q3 p4 q4 p5 q5) (aE p0 q0 p1 q1 p2 q2 p3 q3 p4 q4 p5 q5) w):=by
 obtain ⟨⟨sa,Aa,na,ca,ta,Ba,ma,ka,rfl,rfl,rfl,rfl,pa⟩,⟨sa',Aa',na',ca',ta',Ba',ma',ka',rfl,rfl,rfl,rfl,pa'⟩⟩:=ha
 obtain ⟨⟨sb,Ab,nb,cb,tb,Bb,mb,kb,rfl,rfl,rfl,rfl,pb⟩,⟨sb',Ab',nb',cb',tb',Bb',mb',kb',rfl,rfl,rfl,rfl,pb'⟩⟩:=hb
 obtain ⟨⟨sc,Ac,nc,cc,tc,Bc,mc,kc,rfl,rfl,rfl,rfl,pc⟩,⟨sc',Ac',nc',cc',tc',Bc',mc',kc',rfl,rfl,rfl,rfl,pc'⟩⟩:=hc
 exact steps_any p0 q0 p1 q1 p2 q2 p3 q3 p4 q4 p5 q5 _ _ _ _ _ _ _ _ _ _ _ _ _ _ _ _ _ _ _ _ _ sa Aa na ca ta Ba ma ka sa' Aa' na' ca' ta' Ba' ma' ka' sb Ab nb cb tb Bb mb kb sb' Ab' nb' cb' tb' Bb' mb' kb' sc Ac nc cc tc Bc mc kc sc' Ac' nc' cc' tc' Bc' mc' kc' w pa pa' pb pb' pc pc' f0 f1 f2 f3 f4 f5 ⟨rfl,rfl,rfl⟩ ⟨rfl,rfl,rfl⟩ ⟨rfl,rfl,rfl⟩ ⟨rfl,rfl,rfl⟩ ⟨rfl,rfl,rfl⟩ ⟨rfl,rfl,rfl⟩ ⟨rfl,rfl,rfl⟩
theorem sidew_any {p0 q0 p1 q1 p2 q2 p3 q3 p4 q4 p5 q5:Int} {a0 a1 a2 a3 a4 a5 a6 a7:Value} {b0 b1 b2 b3 b4 b5 b6 b7:Value} {c0 c1 c2 c3 c4 c5 c6 c7:Value} (w:World) (ha:PTg w a0 a1 a2 a3 a4 a5 a6 a7 p0 q0 p1 q1) (hb:PTg w b0 b1 b2 b3 b4 b5 b6 b7 p2 q2 p3 q3) (hc:PTg w c0 c1 c2 c3 c4 c5 c6 c7 p4 q4 p5 q5) (f0:Fr p0 q0) (f1:Fr p1 q1) (f2:Fr p2 q2) (f3:Fr p3 q3) (f4:Fr p4 q4) (f5:Fr p5 q5) :
  Calls Tryz.prog 25 #[.agg #[a0,a1,a2,a3,a4,a5,a6,a7],.agg #[b0,b1,b2,b3,b4,b5,b6,b7],.agg #[c0,c1,c2,c3,c4,c5,c6,c7]] w (fun e w'=>e=.returned (.tuple #[.int .i64 (cmpI (aP p0 q0 p1 q1 p2 q2 p3 q3 p4 q4 p5 q5) 0),.int .i64 (aE p0 q0 p1 q1 p2 q2 p3 q3 p4 q4 p5 q5)])∧Below w.heap.size w w'):=by
 obtain ⟨⟨sa,Aa,na,ca,ta,Ba,ma,ka,rfl,rfl,rfl,rfl,pa⟩,⟨sa',Aa',na',ca',ta',Ba',ma',ka',rfl,rfl,rfl,rfl,pa'⟩⟩:=ha
 obtain ⟨⟨sb,Ab,nb,cb,tb,Bb,mb,kb,rfl,rfl,rfl,rfl,pb⟩,⟨sb',Ab',nb',cb',tb',Bb',mb',kb',rfl,rfl,rfl,rfl,pb'⟩⟩:=hb
 obtain ⟨⟨sc,Ac,nc,cc,tc,Bc,mc,kc,rfl,rfl,rfl,rfl,pc⟩,⟨sc',Ac',nc',cc',tc',Bc',mc',kc',rfl,rfl,rfl,rfl,pc'⟩⟩:=hc
 have h:=side_any p0 q0 p1 q1 p2 q2 p3 q3 p4 q4 p5 q5 _ _ _ _ _ _ _ _ _ _ _ _ _ _ _ _ _ _ _ _ _ sa Aa na ca ta Ba ma ka sa' Aa' na' ca' ta' Ba' ma' ka' sb Ab nb cb tb Bb mb kb sb' Ab' nb' cb' tb' Bb' mb' kb' sc Ac nc cc tc Bc mc kc sc' Ac' nc' cc' tc' Bc' mc' kc' w pa pa' pb pb' pc pc' f0 f1 f2 f3 f4 f5 ⟨rfl,rfl,rfl⟩ ⟨rfl,rfl,rfl⟩ ⟨rfl,rfl,rfl⟩ ⟨rfl,rfl,rfl⟩ ⟨rfl,rfl,rfl⟩ ⟨rfl,rfl,rfl⟩ ⟨rfl,rfl,rfl⟩
 obtain ⟨k1,k2⟩:=side_area (p0:=p0) (q0:=q0) (p1:=p1) (q1:=q1) (p2:=p2) (q2:=q2) (p3:=p3) (q3:=q3) (p4:=p4) (q4:=q4) (p5:=p5) (q5:=q5) ⟨rfl,rfl,rfl⟩ ⟨rfl,rfl,rfl⟩ ⟨rfl,rfl,rfl⟩ ⟨rfl,rfl,rfl⟩ ⟨rfl,rfl,rfl⟩ ⟨rfl,rfl,rfl⟩ ⟨rfl,rfl,rfl⟩
 rw [k1,k2] at h
 exact h
end Go.Proofs.YtbgfmegepekapaaGreat
