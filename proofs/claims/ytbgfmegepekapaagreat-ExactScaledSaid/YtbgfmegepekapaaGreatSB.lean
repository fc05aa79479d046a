/- Contracts and mathematics for ExactScaled. Conditions: as each statement has them. -/
import Derived.Test.YtbgfmegepekapaaGreatEL
import Derived.Test.YtbgfmegepekapaaGreatEZ
namespace Go.Proofs.YtbgfmegepekapaaGreat
set_option maxRecDepth 100000
set_option maxHeartbeats 12800000
open Go.RowKit
attribute [local go_sem ↓] Go.wp_at_zero Go.wp_at_succ
set_option linter.unusedVariables false
set_option linter.unusedSimpArgs false
theorem vd_cs {x y:Int} (h:Co x∧Co y):vdP (x,y)=0:=by
 have h1:=h.1.1
 have h2:=h.1.2
 have h3:=h.2.1
 have h4:=h.2.2
 exact if_pos ⟨⟨by show _≤x; omega,by show _≤y; omega⟩,by show x≤_; omega,by show y≤_; omega⟩
theorem pq_co {x y:Int} (h:Co x∧Co y):Pq x y 1:=by
 have h1:=h.1.1
 have h2:=h.1.2
 have h3:=h.2.1
 have h4:=h.2.2
 exact ⟨⟨by omega,by omega⟩,⟨by omega,by omega⟩,by omega,by omega⟩
theorem ar_one (ax ay bx by' cx cy:Int):cmpI (arN ax ay 1 bx by' 1 cx cy 1) 0=sdV ax ay bx by' cx cy:=by
 rw [sd_sub]
 unfold arN
 simp only [Int.mul_one]
/-- n, a and b as the law makes them. -/
def Nac (n a b:Int):Prop:=(1≤n∧n≤16777216)∧(-268435456≤a∧a≤268435456)∧(-268435456≤b∧b≤268435456)
theorem ms_in {n x a:Int} (hn:1≤n∧n≤16777216) (hx:Co x) (ha : -268435456≤a∧a≤268435456):(0≤n*x∧n*x≤536870912) ∧ -268435456≤n*x+a∧n*x+a≤805306368:=by
 have m1:0≤n*x∧n*x≤536870912:=⟨Int.mul_nonneg (by omega) hx.1,by have:=Int.mul_le_mul hn.2 hx.2 hx.1 (by decide); omega⟩
 omega
theorem ms_i6 {n x a:Int} (hn:1≤n∧n≤16777216) (hx:Co x) (ha : -268435456≤a∧a≤268435456):I6 (n*x)∧I6 (n*x+a):=by
 have:=ms_in hn hx ha
 unfold I6
 omega
theorem ms_vd {x y:Int} (h1 : -268435456≤x∧x≤805306368) (h2 : -268435456≤y∧y≤805306368):vdP (x,y)=0:=if_pos ⟨⟨by show _≤x; omega,by show _≤y; omega⟩,by show x≤_; omega,by show y≤_; omega⟩
theorem cmp_mul {k x y:Int} (hk:0 < k):cmpI (k*x) (k*y)=cmpI x y:=by
 have e1:k*x < k*y↔x < y:=⟨fun h=>Int.lt_of_mul_lt_mul_left h (by omega),fun h=>Int.mul_lt_mul_of_pos_left h hk⟩
 have e2:k*y < k*x↔y < x:=⟨fun h=>Int.lt_of_mul_lt_mul_left h (by omega),fun h=>Int.mul_lt_mul_of_pos_left h hk⟩
 unfold cmpI
 simp only [e1,e2]
theorem cmp_mul0 {k x:Int} (hk:0 < k):cmpI (k*x) 0=cmpI x 0:=by
 have h:=cmp_mul (x:=x) (y:=0) hk
 rwa [Int.mul_zero] at h
theorem cmp_sym (a b:Int):cmpI a b = -cmpI b a:=by unfold cmpI; split <;> split <;> (try split) <;> (try split) <;> omega
theorem sd_mv {n a b ax ay bx by' cx cy:Int} (hn:1≤n):sdV (n*ax+a) (n*ay+b) (n*bx+a) (n*by'+b) (n*cx+a) (n*cy+b)=sdV ax ay bx by' cx cy:=by
 unfold sdV
 rw [show (n*bx+a - (n*ax+a))*(n*cy+b - (n*ay+b))=n*n*((bx - ax)*(cy - ay)) by grind,show (n*by'+b - (n*ay+b))*(n*cx+a - (n*ax+a))=n*n*((by' - ay)*(cx - ax)) by grind]
 exact cmp_mul (Int.mul_pos (by omega) (by omega))
theorem sd_ex (ax ay bx by' cx cy:Int):sdV ay ax by' bx cy cx = -sdV ax ay bx by' cx cy:=by
 unfold sdV
 exact cmp_sym _ _
theorem ci_mv {n a b ax ay bx by' cx cy dx dy:Int} (hn:1≤n):ciV (n*ax+a) (n*ay+b) (n*bx+a) (n*by'+b) (n*cx+a) (n*cy+b) (n*dx+a) (n*dy+b)=ciV ax ay bx by' cx cy dx dy:=by
 unfold ciV
 rw [sd_mv hn,show arV (n*ax+a) (n*ay+b) (n*bx+a) (n*by'+b) (n*cx+a) (n*cy+b) (n*dx+a) (n*dy+b)=n*n*(n*n)*arV ax ay bx by' cx cy dx dy by unfold arV ahV lfV; grind,cmp_mul0 (Int.mul_pos (Int.mul_pos (by omega) (by omega)) (Int.mul_pos (by omega) (by omega)))]
theorem ci_ex (ax ay bx by' cx cy dx dy:Int):ciV ay ax by' bx cy cx dy dx=ciV ax ay bx by' cx cy dx dy:=by
 unfold ciV
 rw [sd_ex,show arV ay ax by' bx cy cx dy dx = -arV ax ay bx by' cx cy dx dy by unfold arV ahV lfV; grind,cmp_opp,Int.neg_mul_neg]
theorem fs3 {p q r:Int × Int} (hp:vdP p=0) (hq:vdP q=0) (hr:vdP r=0):fsE vdP [p,q,r]=0:=by rw [fs_zero hp,fs_zero hq,fs_zero hr]; rfl
theorem fs4 {p q r s:Int × Int} (hp:vdP p=0) (hq:vdP q=0) (hr:vdP r=0) (hs:vdP s=0):fsE vdP [p,q,r,s]=0:=by rw [fs_zero hp,fs3 hq hr hs]
theorem so_is {ax ay bx by' cx cy:Int} (h0:vdP (ax,ay)=0) (h1:vdP (bx,by')=0) (h2:vdP (cx,cy)=0):soV ax ay bx by' cx cy=sdV ax ay bx by' cx cy∧soE ax ay bx by' cx cy=0:=⟨if_pos (fs3 h0 h1 h2),fs3 h0 h1 h2⟩
theorem cr_is {ax ay bx by' cx cy dx dy:Int} (h0:vdP (ax,ay)=0) (h1:vdP (bx,by')=0) (h2:vdP (cx,cy)=0) (h3:vdP (dx,dy)=0):crV ax ay bx by' cx cy dx dy=ciV ax ay bx by' cx cy dx dy∧crE ax ay bx by' cx cy dx dy=(if sdV ax ay bx by' cx cy=0 then 1 else 0):=⟨if_pos (fs4 h0 h1 h2 h3),if_pos (fs4 h0 h1 h2 h3)⟩
/-- The law's numbers: four points, the same moved and made greater, and with the coordinates exchanged. -/
theorem scaled_math {n a b x0 y0 x1 y1 x2 y2 x3 y3:Int} (hn:Nac n a b) (h0:Co x0∧Co y0) (h1:Co x1∧Co y1) (h2:Co x2∧Co y2) (h3:Co x3∧Co y3):∀ u0 v0 u1 v1 u2 v2 u3 v3:Int,(n*x0+a=u0∧n*y0+b=v0)→(n*x1+a=u1∧n*y1+b=v1)→(n*x2+a=u2∧n*y2+b=v2)→(n*x3+a=u3∧n*y3+b=v3)→∃ sg sn cv ce:Int,(sdV x0 y0 x1 y1 x2 y2=sg∧IntKind.i64.wrap (-sg)=sn)∧((soV x0 y0 x1 y1 x2 y2=sg∧soE x0 y0 x1 y1 x2 y2=0)∧(soV u0 v0 u1 v1 u2 v2=sg∧soE u0 v0 u1 v1 u2 v2=0)∧(soV v0 u0 v1 u1 v2 u2=sn∧soE v0 u0 v1 u1 v2 u2=0))∧cmpI (arN u0 v0 1 u1 v1 1 u2 v2 1) 0=sg∧((crV x0 y0 x1 y1 x2 y2 x3 y3=cv∧crE x0 y0 x1 y1 x2 y2 x3 y3=ce)∧(crV u0 v0 u1 v1 u2 v2 u3 v3=cv∧crE u0 v0 u1 v1 u2 v2 u3 v3=ce)∧(crV v0 u0 v1 u1 v2 u2 v3 u3=cv∧crE v0 u0 v1 u1 v2 u2 v3 u3=ce))∧((sg=0∧ce=1)∨(¬ sg=0∧ce=0)):=by
 rintro _ _ _ _ _ _ _ _ ⟨rfl,rfl⟩ ⟨rfl,rfl⟩ ⟨rfl,rfl⟩ ⟨rfl,rfl⟩
 have q0:=vd_cs h0
 have q1:=vd_cs h1
 have q2:=vd_cs h2
 have q3:=vd_cs h3
 have k:∀ x y:Int,Co x∧Co y→vdP (n*x+a,n*y+b)=0∧vdP (n*y+b,n*x+a)=0:=fun x y h=>⟨ms_vd (ms_in hn.1 h.1 hn.2.1).2 (ms_in hn.1 h.2 hn.2.2).2,ms_vd (ms_in hn.1 h.2 hn.2.2).2 (ms_in hn.1 h.1 hn.2.1).2⟩
 have s0:=k _ _ h0
 have s1:=k _ _ h1
 have s2:=k _ _ h2
 have s3:=k _ _ h3
 obtain ⟨a1,a2⟩:=so_is q0 q1 q2
 obtain ⟨b1,b2⟩:=so_is s0.1 s1.1 s2.1
 obtain ⟨c1,c2⟩:=so_is s0.2 s1.2 s2.2
 obtain ⟨d1,d2⟩:=cr_is q0 q1 q2 q3
 obtain ⟨e1,e2⟩:=cr_is s0.1 s1.1 s2.1 s3.1
 obtain ⟨f1,f2⟩:=cr_is s0.2 s1.2 s2.2 s3.2
 have w1:IntKind.i64.wrap (-sdV x0 y0 x1 y1 x2 y2) = -sdV x0 y0 x1 y1 x2 y2:=by
  refine IntWalk.i64_in _ ?_
  have hc:∀ u v:Int, -1≤cmpI u v∧cmpI u v≤1:=by intro u v; unfold cmpI; split <;> (try split) <;> omega
  have:=hc ((x1 - x0)*(y2 - y0)) ((y1 - y0)*(x2 - x0))
  unfold sdV
  omega
 have hz:(if -sdV x0 y0 x1 y1 x2 y2=0 then (1:Int) else 0)=if sdV x0 y0 x1 y1 x2 y2=0 then 1 else 0:=by
  by_cases h:sdV x0 y0 x1 y1 x2 y2=0
  ·rw [if_pos h,if_pos (by omega)]
  rw [if_neg h,if_neg (by omega)]
 refine ⟨_,_,_,_,⟨rfl,rfl⟩,⟨⟨a1,a2⟩,⟨by rw [b1,sd_mv hn.1.1],b2⟩,by rw [c1,sd_ex,sd_mv hn.1.1,w1],c2⟩,by rw [ar_one,sd_mv hn.1.1],⟨⟨rfl,rfl⟩,⟨by rw [e1,d1,ci_mv hn.1.1],by rw [e2,d2,sd_mv hn.1.1]⟩,by rw [f1,d1,ci_ex,ci_mv hn.1.1],by rw [f2,d2,sd_ex,sd_mv hn.1.1,hz]⟩,?_⟩
 rw [d2]
 by_cases h:sdV x0 y0 x1 y1 x2 y2=0
 ·exact .inl ⟨h,if_pos h⟩
 ·exact .inr ⟨h,if_neg h⟩
/-- Two rows of the call's own do not share a block. -/
def Apt (u v:Value):Prop:=∀ g,u.ownBlock=some g→v.ownBlock≠some g
theorem Apt.symm {u v:Value} (h:Apt u v):Apt v u:=fun g hg hu=>h g hu hg
theorem Apt.grow {okv:Value→Bool} {w:World} {base:Nat} {e:TypeId} {size n:Nat} {xs:List Value} {u v u':Value} (h:Apt u v) (ho:OwnR okv w base e size v n xs) (hw:u'.ownBlock=u.ownBlock∨∃ g,u'.ownBlock=some g∧w.heap.size≤g):Apt u' v:=by
 intro g hg hv
 rcases hw with e | ⟨g',e1,e2⟩
 ·rw [e] at hg; exact h g hg hv
 ·rw [e1] at hg
  injection hg with hg
  subst hg
  have:=(ho.1.lt _ hv).2
  omega
theorem apt_nil (v:Value):Apt (.slice none 0 0) v:=fun g h=>by simp [Value.ownBlock] at h
theorem own_ne {okv:Value→Bool} {w:World} {base:Nat} {e:TypeId} {size n:Nat} {xs:List Value} {v:Value} (ho:OwnR okv w base e size v n xs) {b:Nat} (hb:b < base):v.ownBlock≠some b:=fun h=>by have:=(ho.1.lt _ h).1; omega
theorem map_snoc {L:List (Int × Int)} {p:Int × Int} {f:Int × Int→Int × Int} {x y:Int} (h:f p=(x,y)):vp (L.map f) ++ [.int .i64 x,.int .i64 y]=vp ((L ++ [p]).map f):=by
 have h2:=vp_snoc (L.map f) (x,y)
 rw [List.map_append,List.map_cons,List.map_nil,h]
 exact h2
theorem last_map {L:List (Int × Int)} {p:Int × Int} {f:Int × Int→Int × Int} {x y:Int} {i:Nat} (hl:L.length=i) (h:f p=(x,y)):((L ++ [p]).map f)[i]?=some (x,y):=by
 rw [List.map_append,List.map_cons,List.map_nil,h,List.getElem?_append_right (by rw [List.length_map,hl]; exact Nat.le_refl _),List.length_map,hl,Nat.sub_self]
 rfl
theorem vp_last {L:List (Int × Int)} {p:Int × Int} {f:Int × Int→Int × Int} {x y:Int} {i:Nat} (hl:L.length=i) (h:f p=(x,y)):(vp ((L ++ [p]).map f))[i*2]?=some (.int .i64 x)∧(vp ((L ++ [p]).map f))[i*2+1]?=some (.int .i64 y):=vp_get (last_map hl h)
theorem four_of {α:Type} {L:List α} (h:L.length=4):∃ a b c d,L=[a,b,c,d]:=by
 match L,h with
 | [a,b,c,d],_=>exact ⟨a,b,c,d,rfl⟩
/-- Moved, made greater, and exchanged. -/
def msP (n a b:Int) (p:Int × Int):Int × Int:=(n*p.1+a,n*p.2+b)
def mxP (n a b:Int) (p:Int × Int):Int × Int:=(n*p.2+b,n*p.1+a)
theorem scaled2_any (x y k a b:Int) (w:World) (h1:I6 (k*x)∧I6 (k*x+a)) (h2:I6 (k*y)∧I6 (k*y+b)) :
  Calls Tryz.prog 33 #[.agg #[.int .i64 x,.int .i64 y],.int .i64 k,.agg #[.int .i64 a,.int .i64 b]] w fun e w'=>e=.returned (.agg #[.int .i64 (k*x+a),.int .i64 (k*y+b)])∧Below w.heap.size w w':=by
 have HA:=hJ h1
 have HB:=hJ h2
 clear h1 h2
 obtain ⟨x1,aA⟩:=nmz (((w.alloc (.cells #[.int .i64 x,.int .i64 y] 71)).alloc (.cells #[.int .i64 a,.int .i64 b] 71)).alloc (.cells #[.int .i64 0,.int .i64 0] 71))
 have aH:=hJ (show Below w.heap.size w x1 by rw [←aA]; exact ((((Below.refl _ _).alloc (Nat.le_refl _) _).alloc (by simp only [World.size_alloc]; omega) _).alloc (by simp only [World.size_alloc]; omega) _))
 have aC:=hJ (show BX 71 x1 w.heap.size #[.int .i64 x,.int .i64 y] by rw [←aA]; exact (((BX.at rfl).alloc _).alloc _))
 have aD:=hJ (show BX 71 x1 (w.heap.size+1) #[.int .i64 a,.int .i64 b] by rw [←aA]; exact ((BX.at (by simp only [World.size_alloc])).alloc _))
 have aB:=hJ (show BX 71 x1 (w.heap.size+2) #[.int .i64 0,.int .i64 0] by rw [←aA]; exact (BX.at (by simp only [World.size_alloc])))
 have aI:=hJ (show w.heap.size≤w.heap.size+2 by omega)
 have aJ:=aC.out.cell 0 rfl
 have aK:IntKind.i64.wrap (k*x)=k*x:=i6_wrap HA.out.1
 have aL:=aD.out.cell 0 rfl
 have aM:IntKind.i64.wrap ((k*x)+a)=(k*x)+a:=i6_wrap HA.out.2
 have aN:=aC.out.cell 1 rfl
 have aO:IntKind.i64.wrap (k*y)=k*y:=i6_wrap HB.out.1
 have aR:=aD.out.cell 1 rfl
 have aS:IntKind.i64.wrap ((k*y)+b)=(k*y)+b:=i6_wrap HB.out.2
 have aT:=aB.out.frozen 0
 have aU:=aB.out.cell 0 rfl
 have aV:=aB.out.frozen 1
 have aW:=aB.out.cell 1 rfl
 obtain ⟨x6,aF⟩:=nmz (World.setCell (World.setCell x1 ⟨w.heap.size+2,0,none⟩ (.int .i64 ((k*x)+a))) ⟨w.heap.size+2,1,none⟩ (.int .i64 ((k*y)+b)))
 have aG:=hJ (show sto x1 (w.heap.size+2) 0 [.int .i64 ((k*x)+a),.int .i64 ((k*y)+b)]=x6 from aF)
 have aX:=hJ (show BX 71 x6 (w.heap.size+2) #[.int .i64 ((k*x)+a),.int .i64 ((k*y)+b)] by rw [←aG.out]; exact BX.put aB.out _ _)
 have aY:=hJ (show Below w.heap.size w x6 by rw [←aG.out]; exact below_sto aH.out aI.out _ _)
 go_enter Tryz.func33,Tryz.ntmps33
 go_wp2
 clear aA aJ aK aL aM aN aO aR aS aT aU aV aW aF
 exact bodyPost_ret (results_cell_row rfl _ _ _ _ _ _ _ rfl aX.out Tryz.underlying71 rfl G_size) rfl ⟨rfl,aY.out⟩
theorem bound28_any (v:Int) (w:World) (hv:(Lit.int .i64 v).wf=true) :
  Calls Tryz.prog 30 #[.int .i64 v,.int .i64 268435456] w fun e w'=>e=.returned (.int .i64 (aroundZ v 536870913 - 268435456))∧Below w.heap.size w w':=by
 have HV:=hJ hv
 clear hv
 obtain ⟨z,hz⟩:∃ t,aroundZ v 536870913=t:=⟨_,rfl⟩
 have HZ:=hJ hz
 have HI:=hJ (show I6 (z - 268435456) by have:=aroundZ_in v (n:=536870913) (by decide); unfold I6; omega)
 clear hz
 go_enter Tryz.func30,Tryz.ntmps30
 go_wp2_with fail
 refine (aroundz_any v 536870913 w (by decide) (by decide) HV.out).mono ?_
 rw [HZ.out]
 rintro e w1 ⟨rfl,rfl⟩
 have aA:IntKind.i64.wrap (z - 268435456)=z - 268435456:=i6_wrap HI.out
 go_wp2
 clear aA
 go_ret
 exact ⟨by rw [HZ.out]; rfl,(Below.refl _ _)⟩
theorem rvalid3_any (x0 y0 x1 y1 x2 y2:Int) (g:Nat) (w:World) (hq:BX 71 w g #[.int .i64 x0,.int .i64 y0,.int .i64 x1,.int .i64 y1,.int .i64 x2,.int .i64 y2]) (h0:Co x0∧Co y0) (h1:Co x1∧Co y1) (h2:Co x2∧Co y2) :
  Calls Tryz.prog 80 #[.slice (some ⟨g,0,none⟩) 3 3] w fun e w'=>e=.returned (.int .i64 0)∧Below w.heap.size w w':=by
 have aD:=hJ hq
 have aF:=hJ h0
 have aG:=hJ h1
 have aH:=hJ h2
 clear hq h0 h1 h2
 go_enter Tryz.func80,Tryz.ntmps80
 go_wp2_with fail
 go_loopw [3] (fun tv wr=>∃ i:Nat,i≤3∧tv=.int .i64 (i:Int)∧Below w.heap.size w wr) (fun tv _=>3 - (intOf tv).toNat)
 case atStart=>exact ⟨0,by omega,rfl,Below.refl _ _⟩
 case round =>
  obtain ⟨i1,hi,rfl,hbel⟩:=hrel
  obtain ⟨wl1,rfl⟩:∃ W:World,W=wr:=⟨_,rfl⟩
  have aA:=hJ hbel
  clear hbel
  have hcs:i1=0∨i1=1∨i1=2∨i1=3:=by omega
  clear hi
  rcases hcs with rfl | rfl | rfl | rfl
  ·(try rw [show ((0:Nat):Int)=0 from rfl])
   have aB:=hJ (BX.new aD.out aA.out)
   obtain ⟨aI,aJ⟩:=aB.out.c2 0 1 rfl rfl
   go_wp2_with fail
   clear aI aJ
   refine (good_any x0 y0 wl1).mono ?_
   rw [show vdC x0 y0=0 from vd_cs aF.out]
   rintro e w4 ⟨rfl,hb⟩
   have aK:=hJ hb
   clear hb
   have aC:=hJ (bt aA.out aK.out)
   go_wp2_with fail
   go_roundw
   case rel=>exact ⟨0+1,by omega,by go_num,aC.out⟩
   case measure=>simp [intOf] <;> omega
  ·(try rw [show ((1:Nat):Int)=1 from rfl])
   have aB:=hJ (BX.new aD.out aA.out)
   obtain ⟨aL,aM⟩:=aB.out.c2 2 3 rfl rfl
   go_wp2_with fail
   clear aL aM
   refine (good_any x1 y1 wl1).mono ?_
   rw [show vdC x1 y1=0 from vd_cs aG.out]
   rintro e w7 ⟨rfl,hb⟩
   have aN:=hJ hb
   clear hb
   have aC:=hJ (bt aA.out aN.out)
   go_wp2_with fail
   go_roundw
   case rel=>exact ⟨1+1,by omega,by go_num,aC.out⟩
   case measure=>simp [intOf] <;> omega
  ·(try rw [show ((2:Nat):Int)=2 from rfl])
   have aB:=hJ (BX.new aD.out aA.out)
   obtain ⟨aO,aR⟩:=aB.out.c2 4 5 rfl rfl
   go_wp2_with fail
   clear aO aR
   refine (good_any x2 y2 wl1).mono ?_
   rw [show vdC x2 y2=0 from vd_cs aH.out]
   rintro e w10 ⟨rfl,hb⟩
   have aS:=hJ hb
   clear hb
   have aC:=hJ (bt aA.out aS.out)
   go_wp2_with fail
   go_roundw
   case rel=>exact ⟨2+1,by omega,by go_num,aC.out⟩
   case measure=>simp [intOf] <;> omega
  ·(try rw [show ((3:Nat):Int)=3 from rfl])
   go_wp2
   go_ret
   exact ⟨rfl,aA.out⟩
theorem rsideof_any (ax ay bx by' cx cy:Int) (w:World) (ha:Co ax∧Co ay) (hb:Co bx∧Co by') (hc:Co cx∧Co cy) :
  Calls Tryz.prog 34 #[.agg #[.int .i64 ax,.int .i64 ay],.agg #[.int .i64 bx,.int .i64 by'],.agg #[.int .i64 cx,.int .i64 cy]] w fun e w'=>e=.returned (.tuple #[.int .i64 (sdV ax ay bx by' cx cy),.int .i64 0])∧Below w.heap.size w w':=by
 have aF:=hJ ha
 have aG:=hJ hb
 have aH:=hJ hc
 clear ha hb hc
 obtain ⟨x1,aA⟩:=nmz (((w.alloc (.cells #[.int .i64 ax,.int .i64 ay] 71)).alloc (.cells #[.int .i64 bx,.int .i64 by'] 71)).alloc (.cells #[.int .i64 cx,.int .i64 cy] 71))
 have aW:=hJ (show Below w.heap.size w x1 by rw [←aA]; exact ((((Below.refl _ _).alloc (Nat.le_refl _) _).alloc (by simp only [World.size_alloc]; omega) _).alloc (by simp only [World.size_alloc]; omega) _))
 have aI:=hJ (show BX 71 x1 w.heap.size #[.int .i64 ax,.int .i64 ay] by rw [←aA]; exact (((BX.at rfl).alloc _).alloc _))
 have aJ:=hJ (show BX 71 x1 (w.heap.size+1) #[.int .i64 bx,.int .i64 by'] by rw [←aA]; exact ((BX.at (by simp only [World.size_alloc])).alloc _))
 have aK:=hJ (show BX 71 x1 (w.heap.size+2) #[.int .i64 cx,.int .i64 cy] by rw [←aA]; exact (BX.at (by simp only [World.size_alloc])))
 obtain ⟨aX,aY⟩:=aI.out.c2 0 1 rfl rfl
 obtain ⟨aZ,bA⟩:=aJ.out.c2 0 1 rfl rfl
 obtain ⟨bB,bC⟩:=aK.out.c2 0 1 rfl rfl
 obtain ⟨x8,aC⟩:=nmz (x1.alloc (.cells #[.int .i64 ax,.int .i64 ay,.int .i64 bx,.int .i64 by',.int .i64 cx,.int .i64 cy] 71))
 have aL:=hJ (show Below x1.heap.size x1 x8 by rw [←aC]; exact ((Below.refl _ _).alloc (Nat.le_refl _) _))
 have bD:=hJ (show BX 71 x8 x1.heap.size #[.int .i64 ax,.int .i64 ay,.int .i64 bx,.int .i64 by',.int .i64 cx,.int .i64 cy] by rw [←aC]; exact (BX.at rfl))
 go_enter Tryz.func34,Tryz.ntmps34
 go_wp2_with fail
 clear aA aX aY aZ bA bB bC aC
 refine (rvalid3_any ax ay bx by' cx cy x1.heap.size x8 bD.out aF.out aG.out aH.out).mono ?_
 rintro e w9 ⟨rfl,hb⟩
 have aM:=hJ hb
 clear hb
 have aD:=hJ (bt aL.out aM.out)
 have aN:=hJ (BX.new aI.out aD.out)
 have aO:=hJ (BX.new aJ.out aD.out)
 have aR:=hJ (BX.new aK.out aD.out)
 have aB:Hid (∀ w',Below w9.heap.size w9 w'→(fun w':World=>w'.cell? ⟨w.heap.size,0,none⟩=some (.int .i64 ax)∧w'.cell? ⟨w.heap.size,1,none⟩=some (.int .i64 ay)∧w'.cell? ⟨w.heap.size+1,0,none⟩=some (.int .i64 bx)∧w'.cell? ⟨w.heap.size+1,1,none⟩=some (.int .i64 by')∧w'.cell? ⟨w.heap.size+2,0,none⟩=some (.int .i64 cx)∧w'.cell? ⟨w.heap.size+2,1,none⟩=some (.int .i64 cy)∧Below w9.heap.size w9 w') w'):=hJ (fun w' hb=>⟨(BX.new aN.out hb).cell 0 rfl,(BX.new aN.out hb).cell 1 rfl,(BX.new aO.out hb).cell 0 rfl,(BX.new aO.out hb).cell 1 rfl,(BX.new aR.out hb).cell 0 rfl,(BX.new aR.out hb).cell 1 rfl,hb⟩)
 go_wp2_with fail
 obtain ⟨v10,hv10⟩:=nmz (World.drew w9)
 have bE:=hJ (show Below w9.heap.size w9 v10 by rw [←hv10]; exact (Below.refl _ _).drew)
 refine whd aB hv10 (fun hHeld=>?_)
 clear hv10
 refine tq 0 ?_
 refine tq 2 ?_
 refine tq 4 ?_
 try simp only [PT]
 refine ryy [1] ?_
 refine .cons rfl (fun K hK=>?_) .nil
 go_simp
 go_at_call 39
 refine (rof_any ax ay v10).mono ?_
 rintro e v11 ⟨rfl,hb⟩
 have bF:=hJ hb
 clear hb
 go_wp2_with fail
 have aS:=hJ (bt bE.out bF.out)
 clear hHeld
 refine hK.out _ _ (aB.out _ aS.out) (fun hHeld=>?_)
 clear hK K
 try simp only [PT]
 refine ryy [3] ?_
 refine .cons rfl (fun K hK=>?_) .nil
 go_simp
 go_at_call 39
 refine (rof_any bx by' v11).mono ?_
 rintro e v12 ⟨rfl,hb⟩
 have bG:=hJ hb
 clear hb
 go_wp2_with fail
 have aT:=hJ (bt aS.out bG.out)
 clear hHeld
 refine hK.out _ _ (aB.out _ aT.out) (fun hHeld=>?_)
 clear hK K
 try simp only [PT]
 refine ryy [5] ?_
 refine .cons rfl (fun K hK=>?_) .nil
 go_simp
 go_at_call 39
 refine (rof_any cx cy v12).mono ?_
 rintro e v13 ⟨rfl,hb⟩
 have bH:=hJ hb
 clear hb
 go_wp2_with fail
 have aU:=hJ (bt aT.out bH.out)
 clear hHeld
 refine hK.out _ _ (aB.out _ aU.out) (fun hHeld=>?_)
 clear hK K
 try simp only [PT]
 refine ryy [6] ?_
 refine .cons rfl (fun K hK=>?_) .nil
 go_simp
 go_at_call 81
 refine (rside5_any ax ay 1 bx by' 1 cx cy 1 v13 (pq_co aF.out) (pq_co aG.out) (pq_co aH.out)).mono ?_
 rw [ar_one]
 rintro e v14 ⟨rfl,hb⟩
 have bJ:=hJ hb
 clear hb
 go_wp2_with fail
 have aV:=hJ (bt aU.out bJ.out)
 clear hHeld
 refine hK.out _ _ (aB.out _ aV.out) (fun hHeld=>?_)
 clear hK K
 refine tq 7 ?_
 refine tq 8 ?_
 try simp only [PT]
 refine wpAnyH_done (by kernel_rfl) ?_ _
 clear hHeld
 have bK:=hJ (bt (bt (bt aW.out aL.out) aM.out) aV.out)
 go_wp2
 go_ret2
 exact ⟨rfl,bK.out⟩
end Go.Proofs.YtbgfmegepekapaaGreat
