/- Contracts of package cross. Conditions: as each statement has them. -/
import Derived.Test.YtdgicnhadecldaaGreatKAE
import Derived.Test.YtdgicnhadecldaaGreatKB2
import Derived.Test.YtdgicnhadecldaaGreatKB5
import Derived.Test.YtdgicnhadecldaaGreatKEA
import Derived.Test.YtdgicnhadecldaaGreatKED
import Derived.Test.YtdgicnhadecldaaGreatKEV
import Derived.Test.YtdgicnhadecldaaGreatKEZ
import Derived.Test.YtdgicnhadecldaaGreatKFD
import Derived.Test.YtdgicnhadecldaaGreatKFG
import Derived.Test.YtdgicnhadecldaaGreatKFI
import Derived.Test.YtdgicnhadecldaaGreatKPF
import Derived.Test.YtdgicnhadecldaaGreatKPM
import Derived.Test.YtdgicnhadecldaaGreatKQL
namespace Go.Proofs.YtdgicnhadecldaaGreat
open Go.RowKit
attribute [local go_sem ↓] Go.wp_at_zero Go.wp_at_succ
set_option linter.unusedVariables false
set_option linter.unusedSimpArgs false
theorem fs3 {p q r:Int × Int} (hp:vdP p=0) (hq:vdP q=0) (hr:vdP r=0):fsE vdP [p,q,r]=0:=by rw [fs_zero hp,fs_zero hq,fs_zero hr]; rfl
theorem so_is {ax ay bx by' cx cy:Int} (h0:vdP (ax,ay)=0) (h1:vdP (bx,by')=0) (h2:vdP (cx,cy)=0):soV ax ay bx by' cx cy=sdV ax ay bx by' cx cy∧soE ax ay bx by' cx cy=0:=⟨if_pos (fs3 h0 h1 h2),fs3 h0 h1 h2⟩
theorem cmp_in (a b:Int) : -1≤cmpI a b∧cmpI a b≤1:=by unfold cmpI; split <;> (try split) <;> omega
theorem sd_in (ax ay bx by' cx cy:Int) : -1≤sdV ax ay bx by' cx cy∧sdV ax ay bx by' cx cy≤1:=cmp_in _ _
theorem one_mul_in {u v:Int} (hu : -1≤u∧u≤1) (hv : -1≤v∧v≤1) : -1≤u*v∧u*v≤1:=by
 have e:u = -1∨u=0∨u=1:=by omega
 rcases e with rfl | rfl | rfl <;> omega
/-- Whether a point lies on a segment, as holds says. -/
def hoV (ax ay bx by' px py:Int):Bool:=decide (sdV ax ay bx by' px py=0) && mtV (min ax bx) (min ay by') (max ax bx) (max ay by') px py px py
theorem vd_i6 {x y:Int} (h:vdP (x,y)=0):(-1073741824≤x∧x≤1073741824) ∧ -1073741824≤y∧y≤1073741824:=by
 unfold vdP at h
 split at h
 ·rename_i h1; exact ⟨⟨h1.1.1,h1.2.1⟩,h1.1.2,h1.2.2⟩
 ·exact absurd h (by decide)
theorem vd_wf {x y:Int} (h:vdP (x,y)=0):(Lit.int .i64 x).wf=true∧(Lit.int .i64 y).wf=true:=by
 have:=vd_i6 h
 exact ⟨WalkArith.wf_i64 (by omega),WalkArith.wf_i64 (by omega)⟩
theorem vd_pz {x y:Int} (h:vdP (x,y)=0):Pz x y 1:=by
 have:=vd_i6 h
 unfold Pz Nk
 omega
theorem vd_c {x y:Int} (h:vdP (x,y)=0):vdC x y=0:=by
 have:=vd_i6 h
 exact if_pos ⟨by omega,by omega⟩
theorem pfv_one {w:World} {s s':Bool} {A A':Option Addr} {n c n' c':Nat} {x:Int} (h:PF w s A n c s' A' n' c' x 1):PFv w (.bool s) (.slice A n c) (.bool s') (.slice A' n' c') (mkP x 1) (mkQ x 1):=by
 rw [(mk_one x).1,(mk_one x).2.1]
 exact ⟨_,_,_,_,_,_,_,_,rfl,rfl,rfl,rfl,h⟩
/-- Twice the area of three points of the grid. -/
def aN (ax ay bx by' cx cy:Int):Int:=arN ax ay 1 bx by' 1 cx cy 1
theorem aN_is (ax ay bx by' cx cy:Int):aN ax ay bx by' cx cy=(bx - ax)*(cy - ay) - (by' - ay)*(cx - ax):=by unfold aN arN; simp only [Int.mul_one]
theorem aN_mk (ax ay bx by' cx cy:Int):mkP (arN ax ay 1 bx by' 1 cx cy 1) (1*1*1*1)=aN ax ay bx by' cx cy∧mkQ (arN ax ay 1 bx by' 1 cx cy 1) (1*1*1*1)=1:=⟨(mk_one _).1,(mk_one _).2.1⟩
theorem aN_b2 {ax ay bx by' cx cy:Int} (h0:vdP (ax,ay)=0) (h1:vdP (bx,by')=0) (h2:vdP (cx,cy)=0):(aN ax ay bx by' cx cy).natAbs < B2 65:=by
 rw [aN_is]
 have k0:=vd_i6 h0
 have k1:=vd_i6 h1
 have k2:=vd_i6 h2
 have hb:∀ x y:Int,(-1073741824≤x∧x≤1073741824)→(-1073741824≤y∧y≤1073741824)→(x - y).natAbs < B2 32:=fun x y h g=>Nat.lt_of_le_of_lt (show (x - y).natAbs≤2147483648 by omega) (by unfold B2; decide)
 have m1:=b2_m (hb bx ax k1.1 k0.1) (hb cy ay k2.2 k0.2)
 have m2:=b2_m (hb by' ay k1.2 k0.2) (hb cx ax k2.1 k0.1)
 have m3:(-((by' - ay)*(cx - ax))).natAbs < B2 64:=by rw [Int.natAbs_neg]; exact m2
 have:=b2_a m1 m3
 rwa [←Int.sub_eq_add_neg] at this
theorem mk_b2c {k:Nat} {x d:Int} (hx:x.natAbs < B2 k) (hd:d.natAbs < B2 k) (h0:d≠0):(mkP x d).natAbs < B2 k∧(mkQ x d).natAbs < B2 k:=by
 unfold mkP mkQ
 rw [if_neg h0,if_neg h0]
 exact ⟨b2_div hx,b2_div hd⟩
theorem max_wf {a b:Int} (h:(Lit.int .i64 a).wf=true) (g:(Lit.int .i64 b).wf=true):(Lit.int .i64 (max a b)).wf=true:=by
 rcases (show max a b=a∨max a b=b by omega) with e | e <;> rw [e] <;> assumption
theorem vl_frC {k:Nat} {p q x d:Int} (h:Vl k p q x d) (hk:k≤16384):Fr p q:=⟨h.1,b2_lim h.2.1 hk,b2_lim h.2.2.1 hk⟩
set_option maxRecDepth 100000 in
set_option maxHeartbeats 1600000 in
theorem boxof_any (ax ay bx by':Int) (w:World) :
  Calls Tryz.prog 47 #[.agg #[.int .i64 ax,.int .i64 ay,.int .i64 bx,.int .i64 by']] w fun e w'=>e=.returned (.agg #[.int .i64 (min ax bx),.int .i64 (min ay by'),.int .i64 (max ax bx),.int .i64 (max ay by')])∧Below w.heap.size w w':=by
 obtain ⟨x1,aC⟩:=nmz ((w.alloc (.cells #[.int .i64 ax,.int .i64 ay,.int .i64 bx,.int .i64 by'] 25)).alloc (.cells #[.int .i64 0,.int .i64 0,.int .i64 0,.int .i64 0] 97))
 have aH:=hJ (show Below w.heap.size w x1 by rw [←aC]; exact (((Below.refl _ _).alloc (Nat.le_refl _) _).alloc (by simp only [World.size_alloc]; omega) _))
 have aB:=hJ (show BX 25 x1 w.heap.size #[.int .i64 ax,.int .i64 ay,.int .i64 bx,.int .i64 by'] by rw [←aC]; exact ((BX.at rfl).alloc _))
 have aA:=hJ (show BX 97 x1 (w.heap.size+1) #[.int .i64 0,.int .i64 0,.int .i64 0,.int .i64 0] by rw [←aC]; exact (BX.at (by simp only [World.size_alloc])))
 have aI:=hJ (show w.heap.size≤w.heap.size+1 by omega)
 have aJ:=aB.out.cell 0 rfl
 have aK:=aB.out.cell 2 rfl
 have aL:=aB.out.cell 1 rfl
 have aM:=aB.out.cell 3 rfl
 have aO:=aB.out.cell 0 rfl
 have aR:=aB.out.cell 2 rfl
 have aS:=aB.out.cell 1 rfl
 have aT:=aB.out.cell 3 rfl
 have aU:=aA.out.frozen 0
 have aV:=aA.out.cell 0 rfl
 have aW:=aA.out.frozen 1
 have aX:=aA.out.cell 1 rfl
 have aY:=aA.out.frozen 2
 have aZ:=aA.out.cell 2 rfl
 have bA:=aA.out.frozen 3
 have bB:=aA.out.cell 3 rfl
 obtain ⟨x10,aD⟩:=nmz (World.setCell (World.setCell (World.setCell (World.setCell x1 ⟨w.heap.size+1,0,none⟩ (.int .i64 (min ax bx))) ⟨w.heap.size+1,1,none⟩ (.int .i64 (min ay by'))) ⟨w.heap.size+1,2,none⟩ (.int .i64 (max ax bx))) ⟨w.heap.size+1,3,none⟩ (.int .i64 (max ay by')))
 have aG:=hJ (show sto x1 (w.heap.size+1) 0 [.int .i64 (min ax bx),.int .i64 (min ay by'),.int .i64 (max ax bx),.int .i64 (max ay by')]=x10 from aD)
 have bC:=hJ (show BX 97 x10 (w.heap.size+1) #[.int .i64 (min ax bx),.int .i64 (min ay by'),.int .i64 (max ax bx),.int .i64 (max ay by')] by rw [←aG.out]; exact BX.put aA.out _ _)
 have bD:=hJ (show Below w.heap.size w x10 by rw [←aG.out]; exact below_sto aH.out aI.out _ _)
 go_enter Tryz.func47,Tryz.ntmps47
 go_wp2
 clear aC aJ aK aL aM aO aR aS aT aU aV aW aX aY aZ bA bB aD
 exact bodyPost_ret (results_cell_row rfl _ _ _ _ _ _ _ rfl bC.out Tryz.underlying97 rfl (by kernel_rfl)) rfl ⟨rfl,bD.out⟩
set_option maxRecDepth 100000 in
set_option maxHeartbeats 1600000 in
theorem holds_any (ax ay bx by' px py:Int) (w:World) (hv:vdP (ax,ay)=0∧vdP (bx,by')=0∧vdP (px,py)=0) :
  Calls Tryz.prog 57 #[.agg #[.int .i64 ax,.int .i64 ay,.int .i64 bx,.int .i64 by'],.agg #[.int .i64 px,.int .i64 py]] w fun e w'=>e=.returned (.bool (hoV ax ay bx by' px py))∧Below w.heap.size w w':=by
 have HV:=hJ hv
 clear hv
 obtain ⟨sg,hsg⟩:=nmz (sdV ax ay bx by' px py)
 have aD:=hJ hsg
 clear hsg
 obtain ⟨mt,hmt⟩:=nmz (mtV (min ax bx) (min ay by') (max ax bx) (max ay by') px py px py)
 have aJ:=hJ hmt
 clear hmt
 obtain ⟨x1,aA⟩:=nmz ((w.alloc (.cells #[.int .i64 ax,.int .i64 ay,.int .i64 bx,.int .i64 by'] 25)).alloc (.cells #[.int .i64 px,.int .i64 py] 23))
 have aK:=hJ (show Below w.heap.size w x1 by rw [←aA]; exact (((Below.refl _ _).alloc (Nat.le_refl _) _).alloc (by simp only [World.size_alloc]; omega) _))
 have aG:=hJ (show BX 25 x1 w.heap.size #[.int .i64 ax,.int .i64 ay,.int .i64 bx,.int .i64 by'] by rw [←aA]; exact ((BX.at rfl).alloc _))
 have aL:=hJ (show BX 23 x1 (w.heap.size+1) #[.int .i64 px,.int .i64 py] by rw [←aA]; exact (BX.at (by simp only [World.size_alloc])))
 obtain ⟨aS,aT⟩:=aG.out.c2 0 1 rfl rfl
 obtain ⟨aU,aV⟩:=aG.out.c2 2 3 rfl rfl
 obtain ⟨aW,aX⟩:=aL.out.c2 0 1 rfl rfl
 go_enter Tryz.func57,Tryz.ntmps57
 go_wp2_with fail
 clear aA aS aT aU aV aW aX
 refine (sideof_any ax ay bx by' px py x1).mono ?_
 rw [(so_is HV.out.1 HV.out.2.1 HV.out.2.2).1,(so_is HV.out.1 HV.out.2.1 HV.out.2.2).2,aD.out]
 rintro e w8 ⟨rfl,hb⟩
 have aB:=hJ hb
 clear hb
 by_cases hc:sg=0
 ·have hcz:(sg == 0)=true:=by simp [hc]
  have HO:=hJ (show hoV ax ay bx by' px py=mt by unfold hoV; rw [aJ.out,aD.out,hc]; rfl)
  clear hc
  have aC:=hJ (BX.new aG.out aB.out)
  have aM:=hJ (BX.new aL.out aB.out)
  have aH:Hid (∀ w',Below w8.heap.size w8 w'→(fun w':World=>w'.cell? ⟨w.heap.size,0,none⟩=some (.int .i64 ax)∧w'.cell? ⟨w.heap.size,1,none⟩=some (.int .i64 ay)∧w'.cell? ⟨w.heap.size,2,none⟩=some (.int .i64 bx)∧w'.cell? ⟨w.heap.size,3,none⟩=some (.int .i64 by')∧w'.cell? ⟨w.heap.size+1,0,none⟩=some (.int .i64 px)∧w'.cell? ⟨w.heap.size+1,1,none⟩=some (.int .i64 py)∧Below w8.heap.size w8 w') w'):=hJ (fun w' hb=>⟨(BX.new aC.out hb).cell 0 rfl,(BX.new aC.out hb).cell 1 rfl,(BX.new aC.out hb).cell 2 rfl,(BX.new aC.out hb).cell 3 rfl,(BX.new aM.out hb).cell 0 rfl,(BX.new aM.out hb).cell 1 rfl,hb⟩)
  go_wp2_with fail
  obtain ⟨v9,hv9⟩:=nmz (World.drew w8)
  have aY:=hJ (show Below w8.heap.size w8 v9 by rw [←hv9]; exact (Below.refl _ _).drew)
  refine whd aH hv9 (fun hHeld=>?_)
  clear hv9
  refine tq 0 ?_
  refine tq 1 ?_
  refine tq 2 ?_
  refine tq 3 ?_
  refine tq 5 ?_
  refine tq 6 ?_
  refine tq 7 ?_
  try simp only [PT]
  refine ryy [4] ?_
  refine .cons rfl (fun K hK=>?_) .nil
  go_simp
  go_at_call 47
  refine (boxof_any ax ay bx by' v9).mono ?_
  rintro e v10 ⟨rfl,hb⟩
  have aZ:=hJ hb
  clear hb
  go_wp2_with fail
  have aO:=hJ (bt aY.out aZ.out)
  clear hHeld
  refine hK.out _ _ (aH.out _ aO.out) (fun hHeld=>?_)
  clear hK K
  try simp only [PT]
  refine ryy [8] ?_
  refine .cons rfl (fun K hK=>?_) .nil
  go_simp
  go_at_call 76
  refine (meets_any (min ax bx) (min ay by') (max ax bx) (max ay by') px py px py v10).mono ?_
  rw [aJ.out]
  rintro e v11 ⟨rfl,hb⟩
  have bA:=hJ hb
  clear hb
  go_wp2_with fail
  have aR:=hJ (bt aO.out bA.out)
  clear hHeld
  refine hK.out _ _ (aH.out _ aR.out) (fun hHeld=>?_)
  clear hK K
  refine tq 9 ?_
  refine tq 10 ?_
  try simp only [PT]
  refine wpAnyH_done (by kernel_rfl) ?_ _
  clear hHeld
  have aI:=hJ (bt (bt aK.out aB.out) aR.out)
  go_wp2
  go_ret
  exact ⟨by rw [HO.out] <;> rfl,aI.out⟩
 ·have hcz:(sg == 0)=false:=by simp [hc]
  have HO:=hJ (show hoV ax ay bx by' px py=false by unfold hoV; rw [aD.out]; simp [hc])
  clear hc
  have bB:Hid (∀ w',Below w8.heap.size w8 w'→(fun w':World=>Below w8.heap.size w8 w') w'):=hJ (fun w' hb=>hb)
  go_wp2_with fail
  obtain ⟨v12,hv12⟩:=nmz (World.drew w8)
  have bC:=hJ (show Below w8.heap.size w8 v12 by rw [←hv12]; exact (Below.refl _ _).drew)
  refine whd bB hv12 (fun hHeld=>?_)
  clear hv12
  refine tq 0 ?_
  refine tq 1 ?_
  refine tq 2 ?_
  try simp only [PT]
  refine wpAnyH_take (i:=3) (v:=undef) rfl (by kernel_rfl) (by kernel_rfl) (by kernel_rfl) (fun _ _ _ h=>h) (Or.inr ⟨by kernel_rfl,rfl⟩) (by assumption) ?_
  try simp only [PT]
  refine wpAnyH_take (i:=4) (v:=undef) rfl (by kernel_rfl) (by kernel_rfl) (by kernel_rfl) (fun _ _ _ h=>h) (Or.inr ⟨by kernel_rfl,rfl⟩) (by assumption) ?_
  try simp only [PT]
  refine wpAnyH_take (i:=5) (v:=undef) rfl (by kernel_rfl) (by kernel_rfl) (by kernel_rfl) (fun _ _ _ h=>h) (Or.inr ⟨by kernel_rfl,rfl⟩) (by assumption) ?_
  try simp only [PT]
  refine wpAnyH_take (i:=6) (v:=undef) rfl (by kernel_rfl) (by kernel_rfl) (by kernel_rfl) (fun _ _ _ h=>h) (Or.inr ⟨by kernel_rfl,rfl⟩) (by assumption) ?_
  try simp only [PT]
  refine wpAnyH_take (i:=7) (v:=undef) rfl (by kernel_rfl) (by kernel_rfl) (by kernel_rfl) (fun _ _ _ h=>h) (Or.inr ⟨by kernel_rfl,rfl⟩) (by assumption) ?_
  try simp only [PT]
  refine wpAnyH_take (i:=8) (v:=undef) rfl (by kernel_rfl) (by kernel_rfl) (by kernel_rfl) (fun _ _ _ h=>h) (Or.inr ⟨by kernel_rfl,rfl⟩) (by assumption) ?_
  refine tq 9 ?_
  refine tq 10 ?_
  try simp only [PT]
  refine wpAnyH_done (by kernel_rfl) ?_ _
  clear hHeld
  have aI:=hJ (bt (bt aK.out aB.out) bC.out)
  go_wp2
  go_ret
  exact ⟨by rw [HO.out] <;> rfl,aI.out⟩
set_option maxRecDepth 100000 in
set_option maxHeartbeats 1600000 in
theorem sides_any (ax ay bx by' cx cy dx dy:Int) (w:World) (ha:(vdP (ax,ay)=0∧vdP (bx,by')=0)) (hb:(vdP (cx,cy)=0∧vdP (dx,dy)=0)) :
  Calls Tryz.prog 77 #[.agg #[.int .i64 ax,.int .i64 ay,.int .i64 bx,.int .i64 by'],.agg #[.int .i64 cx,.int .i64 cy,.int .i64 dx,.int .i64 dy]] w fun e w'=>e=.returned (.int .i64 (sdV cx cy dx dy ax ay*sdV cx cy dx dy bx by'))∧Below w.heap.size w w':=by
 have HA:=hJ ha
 have HB:=hJ hb
 clear ha hb
 obtain ⟨u,hu⟩:=nmz (sdV cx cy dx dy ax ay)
 obtain ⟨vv,hv⟩:=nmz (sdV cx cy dx dy bx by')
 have HU:=hJ hu
 have HV:=hJ hv
 have HW:=hJ (show IntKind.i64.wrap (u*vv)=u*vv by
  have h:=one_mul_in (show -1≤u∧u≤1 by rw [←hu]; exact sd_in _ _ _ _ _ _) (show -1≤vv∧vv≤1 by rw [←hv]; exact sd_in _ _ _ _ _ _)
  exact IntWalk.i64_in _ (by omega))
 clear hu hv
 obtain ⟨x1,aA⟩:=nmz ((w.alloc (.cells #[.int .i64 ax,.int .i64 ay,.int .i64 bx,.int .i64 by'] 25)).alloc (.cells #[.int .i64 cx,.int .i64 cy,.int .i64 dx,.int .i64 dy] 25))
 have aH:=hJ (show Below w.heap.size w x1 by rw [←aA]; exact (((Below.refl _ _).alloc (Nat.le_refl _) _).alloc (by simp only [World.size_alloc]; omega) _))
 have aD:=hJ (show BX 25 x1 w.heap.size #[.int .i64 ax,.int .i64 ay,.int .i64 bx,.int .i64 by'] by rw [←aA]; exact ((BX.at rfl).alloc _))
 have aB:=hJ (show BX 25 x1 (w.heap.size+1) #[.int .i64 cx,.int .i64 cy,.int .i64 dx,.int .i64 dy] by rw [←aA]; exact (BX.at (by simp only [World.size_alloc])))
 obtain ⟨aI,aJ⟩:=aB.out.c2 0 1 rfl rfl
 obtain ⟨aK,aL⟩:=aB.out.c2 2 3 rfl rfl
 obtain ⟨aM,aO⟩:=aD.out.c2 0 1 rfl rfl
 go_enter Tryz.func77,Tryz.ntmps77
 go_wp2_with fail
 clear aA aI aJ aK aL aM aO
 refine (sideof_any cx cy dx dy ax ay x1).mono ?_
 rw [(so_is HB.out.1 HB.out.2 HA.out.1).1,(so_is HB.out.1 HB.out.2 HA.out.1).2,HU.out]
 rintro e w8 ⟨rfl,hb⟩
 have aC:=hJ hb
 clear hb
 have aG:=hJ (BX.new aB.out aC.out)
 obtain ⟨aR,aS⟩:=aG.out.c2 0 1 rfl rfl
 obtain ⟨aT,aU⟩:=aG.out.c2 2 3 rfl rfl
 have aV:=hJ (BX.new aD.out aC.out)
 obtain ⟨aW,aX⟩:=aV.out.c2 2 3 rfl rfl
 go_wp2_with fail
 clear aR aS aT aU aW aX
 refine (sideof_any cx cy dx dy bx by' w8).mono ?_
 rw [(so_is HB.out.1 HB.out.2 HA.out.2).1,(so_is HB.out.1 HB.out.2 HA.out.2).2,HV.out]
 rintro e w15 ⟨rfl,hb⟩
 have aY:=hJ hb
 clear hb
 have ew:=HW.out
 have aZ:=hJ (bt (bt aH.out aC.out) aY.out)
 go_wp2
 clear ew
 go_ret
 exact ⟨by rw [HU.out,HV.out] <;> rfl,aZ.out⟩
/-- A point on the way from a to b. -/
def owP (p q r s t u:Int):Int:=adP p q (muP (adP r s (-p) q) (adQ r s (-p) q) t u) (muQ (adP r s (-p) q) (adQ r s (-p) q) t u)
def owQ (p q r s t u:Int):Int:=adQ p q (muP (adP r s (-p) q) (adQ r s (-p) q) t u) (muQ (adP r s (-p) q) (adQ r s (-p) q) t u)
/-- The point on the way by values: x + (y - x) * z. -/
theorem vl_ow {k l m:Nat} {p q r s t u x d y f z g:Int} (h0:Vl k p q x d) (h1:Vl l r s y f) (h2:Vl m t u z g) (hk:k+(l+k+1+m)+1≤16384):Vl (k+(l+k+1+m)+1) (owP p q r s t u) (owQ p q r s t u) (x*(f*d*g)+(y*d + -x*f)*z*d) (d*(f*d*g)):=by
 have a1:=(vl_add h1 (vl_neg h0) (by omega)).2
 have a2:=(vl_mul a1 h2 (by omega)).2
 exact (vl_add h0 a2 hk).2
set_option maxRecDepth 100000 in
set_option maxHeartbeats 1600000 in
theorem ontheway_any (p q r s t u:Int) (s0:Bool) (A0:Option Addr) (n0 c0:Nat) (t0:Bool) (B0:Option Addr) (m0 d0:Nat) (s1:Bool) (A1:Option Addr) (n1 c1:Nat) (t1:Bool) (B1:Option Addr) (m1 d1:Nat) (s2:Bool) (A2:Option Addr) (n2 c2:Nat) (t2:Bool) (B2:Option Addr) (m2 d2:Nat) (w:World) (h0:PF w s0 A0 n0 c0 t0 B0 m0 d0 p q) (h1:PF w s1 A1 n1 c1 t1 B1 m1 d1 r s) (h2:PF w s2 A2 n2 c2 t2 B2 m2 d2 t u) (f0:Fr p q) (f1:Fr r s) (f2:Fr t u) :
  Calls Tryz.prog 107 #[.agg #[.bool s0,.slice A0 n0 c0,.bool t0,.slice B0 m0 d0],.agg #[.bool s1,.slice A1 n1 c1,.bool t1,.slice B1 m1 d1],.agg #[.bool s2,.slice A2 n2 c2,.bool t2,.slice B2 m2 d2]] w (RetF (owP p q r s t u) (owQ p q r s t u) w):=by
 have bK:=hJ h0
 have bL:=hJ h1
 have bM:=hJ h2
 have aB:=hJ f0
 have aD:=hJ f1
 have aG:=hJ f2
 clear h0 h1 h2 f0 f1 f2
 obtain ⟨x1,aC⟩:=nmz ((((w.alloc (.cells #[.bool s0,.slice A0 n0 c0,.bool t0,.slice B0 m0 d0] 35)).alloc (.cells #[.bool s1,.slice A1 n1 c1,.bool t1,.slice B1 m1 d1] 35)).alloc (.cells #[.bool s2,.slice A2 n2 c2,.bool t2,.slice B2 m2 d2] 35)).alloc (.cells #[.bool false,.slice none 0 0,.bool false,.slice none 0 0] 35))
 have aI:=hJ (show Below w.heap.size w x1 by rw [←aC]; exact (((((Below.refl _ _).alloc (Nat.le_refl _) _).alloc (by simp only [World.size_alloc]; omega) _).alloc (by simp only [World.size_alloc]; omega) _).alloc (by simp only [World.size_alloc]; omega) _))
 have aZ:=hJ (show BX 35 x1 w.heap.size #[.bool s0,.slice A0 n0 c0,.bool t0,.slice B0 m0 d0] by rw [←aC]; exact ((((BX.at rfl).alloc _).alloc _).alloc _))
 have bN:=hJ (show BX 35 x1 (w.heap.size+1) #[.bool s1,.slice A1 n1 c1,.bool t1,.slice B1 m1 d1] by rw [←aC]; exact (((BX.at (by simp only [World.size_alloc])).alloc _).alloc _))
 have bO:=hJ (show BX 35 x1 (w.heap.size+2) #[.bool s2,.slice A2 n2 c2,.bool t2,.slice B2 m2 d2] by rw [←aC]; exact ((BX.at (by simp only [World.size_alloc])).alloc _))
 have bP:=hJ (show BX 35 x1 (w.heap.size+3) #[.bool false,.slice none 0 0,.bool false,.slice none 0 0] by rw [←aC]; exact (BX.at (by simp only [World.size_alloc])))
 have bQ:=hJ (show w.heap.size≤w.heap.size+3 by omega)
 obtain ⟨bR,bS,bT,bU⟩:=bN.out.c4 0 1 2 3 rfl rfl rfl rfl
 obtain ⟨bV,bW,bX,bY⟩:=aZ.out.c4 0 1 2 3 rfl rfl rfl rfl
 obtain ⟨P11,hP11⟩:=nmz (adP r s (-p) q)
 have aJ:=hJ hP11
 clear hP11
 obtain ⟨Q12,hQ12⟩:=nmz (adQ r s (-p) q)
 have aK:=hJ hQ12
 clear hQ12
 obtain ⟨C13,hC13⟩:=nmz (adC r s (-p) q)
 have bZ:=hJ hC13
 clear hC13
 have aH:=hJ (show Fr P11 Q12 by rw [←aJ.out,←aK.out]; exact fr_ad aD.out (fr_neg aB.out))
 have cA:=hJ (PF.new bL.out aI.out)
 have bA:=hJ (PF.new bK.out aI.out)
 go_enter Tryz.func107,Tryz.ntmps107
 go_wp2_with fail
 clear aC bR bS bT bU bV bW bX bY
 refine (fsub_any r s p q s1 t1 s0 t0 A1 B1 A0 B0 n1 c1 m1 d1 n0 c0 m0 d0 x1 cA.out bA.out aD.out.1.1 aB.out.1.1 aD.out.2.1 aD.out.2.2 aB.out.2.1 aB.out.2.2).mono ?_
 rw [aJ.out,aK.out,bZ.out]
 rintro e w10 ⟨s15,A15,n15,c15,t15,B15,m15,d15,rfl,hr15,hb⟩
 have bB:=hJ hb
 have cB:=hJ hr15
 clear hb hr15
 obtain ⟨x11,aL⟩:=nmz (w10.alloc (.cells #[.bool s15,.slice A15 n15 c15,.bool t15,.slice B15 m15 d15] 35))
 have aM:=hJ (show Below w10.heap.size w10 x11 by rw [←aL]; exact ((Below.refl _ _).alloc (Nat.le_refl _) _))
 have cC:=hJ (show BX 35 x11 w10.heap.size #[.bool s15,.slice A15 n15 c15,.bool t15,.slice B15 m15 d15] by rw [←aL]; exact (BX.at rfl))
 obtain ⟨cD,cE,cF,cG⟩:=cC.out.c4 0 1 2 3 rfl rfl rfl rfl
 have bC:=hJ (bt bB.out aM.out)
 have cH:=hJ (BX.new bO.out bC.out)
 obtain ⟨cI,cJ,cK,cL⟩:=cH.out.c4 0 1 2 3 rfl rfl rfl rfl
 obtain ⟨P16,hP16⟩:=nmz (muP P11 Q12 t u)
 have aO:=hJ hP16
 clear hP16
 obtain ⟨Q17,hQ17⟩:=nmz (muQ P11 Q12 t u)
 have aR:=hJ hQ17
 clear hQ17
 obtain ⟨C18,hC18⟩:=nmz (muC P11 Q12 t u)
 have cM:=hJ hC18
 clear hC18
 have aS:=hJ (show Fr P16 Q17 by rw [←aO.out,←aR.out]; exact fr_mu aH.out aG.out)
 have cN:=hJ (PF.new cB.out aM.out)
 have bD:=hJ (bt (bt aI.out bB.out) aM.out)
 have cO:=hJ (PF.new bM.out bD.out)
 go_wp2_with fail
 clear aL cD cE cF cG cI cJ cK cL
 refine (fmul_any P11 Q12 t u s15 t15 s2 t2 A15 B15 A2 B2 n15 c15 m15 d15 n2 c2 m2 d2 x11 cN.out cO.out aH.out.1.1 aG.out.1.1 aH.out.2.1 aH.out.2.2 aG.out.2.1 aG.out.2.2).mono ?_
 rw [aO.out,aR.out,cM.out]
 rintro e w20 ⟨s20,A20,n20,c20,t20,B20,m20,d20,rfl,hr20,hb⟩
 have bE:=hJ hb
 have cP:=hJ hr20
 clear hb hr20
 obtain ⟨x21,aT⟩:=nmz (w20.alloc (.cells #[.bool s20,.slice A20 n20 c20,.bool t20,.slice B20 m20 d20] 35))
 have aU:=hJ (show Below w20.heap.size w20 x21 by rw [←aT]; exact ((Below.refl _ _).alloc (Nat.le_refl _) _))
 have cQ:=hJ (show BX 35 x21 w20.heap.size #[.bool s20,.slice A20 n20 c20,.bool t20,.slice B20 m20 d20] by rw [←aT]; exact (BX.at rfl))
 have aV:=hJ (bt (bt bC.out bE.out) aU.out)
 have cR:=hJ (BX.new aZ.out aV.out)
 obtain ⟨cS,cT,cU,cV⟩:=cR.out.c4 0 1 2 3 rfl rfl rfl rfl
 obtain ⟨cW,cX,cY,cZ⟩:=cQ.out.c4 0 1 2 3 rfl rfl rfl rfl
 obtain ⟨P21,hP21⟩:=nmz (adP p q P16 Q17)
 have bF:=hJ hP21
 clear hP21
 obtain ⟨Q22,hQ22⟩:=nmz (adQ p q P16 Q17)
 have bG:=hJ hQ22
 clear hQ22
 obtain ⟨C23,hC23⟩:=nmz (adC p q P16 Q17)
 have dA:=hJ hC23
 clear hC23
 have dB:=hJ (PF.new bA.out aV.out)
 have dD:=hJ (PF.new cP.out aU.out)
 go_wp2_with fail
 clear aT cS cT cU cV cW cX cY cZ
 refine (fadd_any p q P16 Q17 s0 t0 s20 t20 A0 B0 A20 B20 n0 c0 m0 d0 n20 c20 m20 d20 x21 dB.out dD.out aB.out.1.1 aS.out.1.1 aB.out.2.1 aB.out.2.2 aS.out.2.1 aS.out.2.2).mono ?_
 rw [bF.out,bG.out,dA.out]
 rintro e w30 ⟨s25,A25,n25,c25,t25,B25,m25,d25,rfl,hr25,hb⟩
 have bH:=hJ hb
 have dE:=hJ hr25
 clear hb hr25
 obtain ⟨x31,aW⟩:=nmz (w30.alloc (.cells #[.bool s25,.slice A25 n25 c25,.bool t25,.slice B25 m25 d25] 35))
 have aX:=hJ (show Below w30.heap.size w30 x31 by rw [←aW]; exact ((Below.refl _ _).alloc (Nat.le_refl _) _))
 have dG:=hJ (show BX 35 x31 w30.heap.size #[.bool s25,.slice A25 n25 c25,.bool t25,.slice B25 m25 d25] by rw [←aW]; exact (BX.at rfl))
 obtain ⟨dH,dI,dJ,dK⟩:=dG.out.c4 0 1 2 3 rfl rfl rfl rfl
 have dL:=hJ (bt (bt aV.out bH.out) aX.out)
 have aA:=hJ (BX.new bP.out dL.out)
 have dM:=aA.out.frozen 0
 have dN:=aA.out.cell 0 rfl
 have dO:=aA.out.frozen 1
 have dP:=aA.out.cell 1 rfl
 have dQ:=aA.out.frozen 2
 have dR:=aA.out.cell 2 rfl
 have dS:=aA.out.frozen 3
 have dT:=aA.out.cell 3 rfl
 obtain ⟨x36,bJ⟩:=nmz (World.setCell (World.setCell (World.setCell (World.setCell x31 ⟨w.heap.size+3,0,none⟩ (.bool s25)) ⟨w.heap.size+3,1,none⟩ (.slice A25 n25 c25)) ⟨w.heap.size+3,2,none⟩ (.bool t25)) ⟨w.heap.size+3,3,none⟩ (.slice B25 m25 d25))
 have aY:=hJ (show sto x31 (w.heap.size+3) 0 [.bool s25,.slice A25 n25 c25,.bool t25,.slice B25 m25 d25]=x36 from bJ)
 have dU:=hJ (show BX 35 x36 (w.heap.size+3) #[.bool s25,.slice A25 n25 c25,.bool t25,.slice B25 m25 d25] by rw [←aY.out]; exact BX.put aA.out _ _)
 have dW:=hJ (show Below w.heap.size w x36 by rw [←aY.out]; exact below_sto (bt (bt (bt (bt bD.out bE.out) aU.out) bH.out) aX.out) bQ.out _ _)
 have dX:=hJ (PF.new dE.out aX.out)
 have dY:=hJ (show PF x36 s25 A25 n25 c25 t25 B25 m25 d25 P21 Q22 by rw [←aY.out]; exact PF.sto dX.out aA.out rfl _ _)
 go_wp2
 clear aW dH dI dJ dK dM dN dO dP dQ dR dS dT bJ
 exact bodyPost_ret (results_cell_row rfl _ _ _ _ _ _ _ rfl dU.out Tryz.underlying35 rfl F_size) rfl (by unfold owP owQ; rw [aJ.out,aK.out,aO.out,aR.out,bF.out,bG.out]; exact ⟨s25,A25,n25,c25,t25,B25,m25,d25,rfl,dY.out,dW.out⟩)
set_option maxRecDepth 100000 in
set_option maxHeartbeats 1600000 in
theorem ferr2_any (ax0 ay0 bx0 by0 ax1 ay1 bx1 by1:Int) (g:Nat) (w:World) (hq:BX 25 w g #[.int .i64 ax0,.int .i64 ay0,.int .i64 bx0,.int .i64 by0,.int .i64 ax1,.int .i64 ay1,.int .i64 bx1,.int .i64 by1]) (h0:(vdP (ax0,ay0)=0∧vdP (bx0,by0)=0)∧¬ (ax0=bx0∧ay0=by0)) (h1:(vdP (ax1,ay1)=0∧vdP (bx1,by1)=0)∧¬ (ax1=bx1∧ay1=by1)) :
  Calls Tryz.prog 41 #[.slice (some ⟨g,0,none⟩) 2 2] w fun e w'=>e=.returned (.int .i64 0)∧Below w.heap.size w w':=by
 have aJ:=hJ hq
 have aB:=hJ h0
 have aC:=hJ h1
 clear hq h0 h1
 go_enter Tryz.func41,Tryz.ntmps41
 go_wp2_with fail
 go_loopw [7] (fun tv wr=>∃ i:Nat,i≤2∧tv=.int .i64 (i:Int)∧Below w.heap.size w wr) (fun tv _=>2 - (intOf tv).toNat)
 case atStart=>exact ⟨0,by omega,rfl,Below.refl _ _⟩
 case round =>
  obtain ⟨i1,hi,rfl,hbel⟩:=hrel
  obtain ⟨wl1,rfl⟩:∃ W:World,W=wr:=⟨_,rfl⟩
  have aA:=hJ hbel
  clear hbel
  have hcs:i1=0∨i1=1∨i1=2:=by omega
  clear hi
  rcases hcs with rfl | rfl | rfl
  ·(try rw [show ((0:Nat):Int)=0 from rfl])
   have aD:=hJ (BX.new aJ.out aA.out)
   obtain ⟨aX,aY,aZ,bA⟩:=aD.out.c4 0 1 2 3 rfl rfl rfl rfl
   obtain ⟨x6,aG⟩:=nmz (wl1.alloc (.cells #[.int .i64 ax0,.int .i64 ay0,.int .i64 bx0,.int .i64 by0] 25))
   have bB:=hJ (show Below wl1.heap.size wl1 x6 by rw [←aG]; exact ((Below.refl _ _).alloc (Nat.le_refl _) _))
   have aK:=hJ (show BX 25 x6 wl1.heap.size #[.int .i64 ax0,.int .i64 ay0,.int .i64 bx0,.int .i64 by0] by rw [←aG]; exact (BX.at rfl))
   obtain ⟨bC,bD⟩:=aK.out.c2 0 1 rfl rfl
   go_wp2_with fail
   clear aX aY aZ bA aG bC bD
   refine (valid_any ax0 ay0 x6).mono ?_
   rw [vd_c aB.out.1.1]
   rintro e w9 ⟨rfl,hb⟩
   have aL:=hJ hb
   clear hb
   have aM:=hJ (BX.new aK.out aL.out)
   obtain ⟨bE,bF⟩:=aM.out.c2 2 3 rfl rfl
   go_wp2_with fail
   clear bE bF
   refine (valid_any bx0 by0 w9).mono ?_
   rw [vd_c aB.out.1.2]
   rintro e w12 ⟨rfl,hb⟩
   have aO:=hJ hb
   clear hb
   have hne:=aB.out.2
   have aR:=hJ (BX.new aM.out aO.out)
   obtain ⟨bG,bH⟩:=aR.out.c2 0 1 rfl rfl
   obtain ⟨bJ,bK⟩:=aR.out.c2 2 3 rfl rfl
   have aH:=hJ (bt (bt (bt aA.out bB.out) aL.out) aO.out)
   go_wp2_with fail
   clear hne bG bH bJ bK
   all_goals
    go_roundw
    case rel=>exact ⟨0+1,by omega,by go_num,aH.out⟩
    case measure=>simp [intOf] <;> omega
  ·(try rw [show ((1:Nat):Int)=1 from rfl])
   have aD:=hJ (BX.new aJ.out aA.out)
   obtain ⟨bL,bM,bN,bO⟩:=aD.out.c4 4 5 6 7 rfl rfl rfl rfl
   obtain ⟨x21,aI⟩:=nmz (wl1.alloc (.cells #[.int .i64 ax1,.int .i64 ay1,.int .i64 bx1,.int .i64 by1] 25))
   have bP:=hJ (show Below wl1.heap.size wl1 x21 by rw [←aI]; exact ((Below.refl _ _).alloc (Nat.le_refl _) _))
   have aS:=hJ (show BX 25 x21 wl1.heap.size #[.int .i64 ax1,.int .i64 ay1,.int .i64 bx1,.int .i64 by1] by rw [←aI]; exact (BX.at rfl))
   obtain ⟨bQ,bR⟩:=aS.out.c2 0 1 rfl rfl
   go_wp2_with fail
   clear bL bM bN bO aI bQ bR
   refine (valid_any ax1 ay1 x21).mono ?_
   rw [vd_c aC.out.1.1]
   rintro e w24 ⟨rfl,hb⟩
   have aT:=hJ hb
   clear hb
   have aU:=hJ (BX.new aS.out aT.out)
   obtain ⟨bS,bT⟩:=aU.out.c2 2 3 rfl rfl
   go_wp2_with fail
   clear bS bT
   refine (valid_any bx1 by1 w24).mono ?_
   rw [vd_c aC.out.1.2]
   rintro e w27 ⟨rfl,hb⟩
   have aV:=hJ hb
   clear hb
   have hne:=aC.out.2
   have aW:=hJ (BX.new aU.out aV.out)
   obtain ⟨bU,bV⟩:=aW.out.c2 0 1 rfl rfl
   obtain ⟨bW,bX⟩:=aW.out.c2 2 3 rfl rfl
   have aH:=hJ (bt (bt (bt aA.out bP.out) aT.out) aV.out)
   go_wp2_with fail
   clear hne bU bV bW bX
   all_goals
    go_roundw
    case rel=>exact ⟨1+1,by omega,by go_num,aH.out⟩
    case measure=>simp [intOf] <;> omega
  ·(try rw [show ((2:Nat):Int)=2 from rfl])
   go_wp2
   go_ret
   exact ⟨rfl,aA.out⟩
end Go.Proofs.YtdgicnhadecldaaGreat
