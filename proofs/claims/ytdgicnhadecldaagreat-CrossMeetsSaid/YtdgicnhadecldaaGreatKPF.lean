/- Contracts of the program's points: integers, notGreater over ints, Valid. Conditions: as each statement has them. -/
import Derived.Test.YtdgicnhadecldaaGreatKFF
import Derived.Test.YtdgicnhadecldaaGreatKFI
import Derived.Test.YtdgicnhadecldaaGreatKAE
namespace Go.Proofs.YtdgicnhadecldaaGreat
set_option maxRecDepth 100000
set_option maxHeartbeats 12800000
open Go.RowKit
attribute [local go_sem ↓] Go.wp_at_zero Go.wp_at_succ
theorem A2_size:(Tryz.prog.info? 104).map (·.size)=some 2:=by kernel_rfl
theorem integers_any (x y:Int) (w:World) :
  Calls Tryz.prog 51 #[.agg #[.int .i64 x,.int .i64 y]] w fun e w'=>e=.returned (.agg #[.int .i64 x,.int .i64 y])∧Below w.heap.size w w':=by
 obtain ⟨W,hW⟩:∃ W,(w.alloc (.cells #[.int .i64 x,.int .i64 y] 23)).alloc (.cells #[.int .i64 0,.int .i64 0] 104)=W:=⟨_,rfl⟩
 have HK:=hJ (show Below w.heap.size w W by rw [←hW]; exact ((Below.refl _ w).alloc (Nat.le_refl _) _).alloc (by simp) _)
 have HA:=hJ (show P2 23 W w.heap.size (.int .i64 x) (.int .i64 y) by rw [←hW]; exact (P2.lit w _ _ _).alloc _)
 have HZ:=hJ (show P2 104 W (w.heap.size+1) (.int .i64 0) (.int .i64 0) by
  rw [←hW]
  have h0:=P2.lit (w.alloc (.cells #[.int .i64 x,.int .i64 y] 23)) 104 (.int .i64 0) (.int .i64 0)
  rw [World.size_alloc] at h0
  exact h0)
 obtain ⟨a0,a1⟩:=HA.out.cells
 obtain ⟨z0,z1⟩:=HZ.out.cells
 have f0:=HZ.out.frozen 0
 have f1:=HZ.out.frozen 1
 go_enter Tryz.func51,Tryz.ntmps51
 go_wp2
 exact bodyPost_ret (results_cell_row rfl _ _ _ _ _ _ _ rfl (HZ.out.all (.int .i64 x) (.int .i64 y)) Tryz.underlying104 rfl A2_size) rfl ⟨rfl,below_box HK.out (by omega) _ _⟩
theorem notgr_any (a b x y:Int) (w:World) :
  Calls Tryz.prog 105 #[.agg #[.int .i64 a,.int .i64 b],.agg #[.int .i64 x,.int .i64 y],.func (.func 106) #[] #[]] w fun e w'=>e=.returned (.bool (decide (a≤x∧b≤y)))∧Below w.heap.size w w':=by
 obtain ⟨W,hW⟩:∃ W,(w.alloc (.cells #[.int .i64 a,.int .i64 b] 104)).alloc (.cells #[.int .i64 x,.int .i64 y] 104)=W:=⟨_,rfl⟩
 have HK:=hJ (show Below w.heap.size w W by rw [←hW]; exact ((Below.refl _ w).alloc (Nat.le_refl _) _).alloc (by simp) _)
 have HA:=hJ (show P2 104 W w.heap.size (.int .i64 a) (.int .i64 b) by rw [←hW]; exact (P2.lit w _ _ _).alloc _)
 have HB:=hJ (show P2 104 W (w.heap.size+1) (.int .i64 x) (.int .i64 y) by
  rw [←hW]
  have h0:=P2.lit (w.alloc (.cells #[.int .i64 a,.int .i64 b] 104)) 104 (.int .i64 x) (.int .i64 y)
  rw [World.size_alloc] at h0
  exact h0)
 obtain ⟨h,hh⟩:∃ h,w.heap.size=h:=⟨_,rfl⟩
 rw [hh] at HA HB
 go_enter Tryz.func105,Tryz.ntmps105
 go_wp2_with fail
 clear hW hh
 go_loopw [8] (fun v wr=>∃ i:Nat,i≤2∧v=.int .i64 (i:Int)∧P2 104 wr h (.int .i64 a) (.int .i64 b)∧P2 104 wr (h+1) (.int .i64 x) (.int .i64 y)∧Hid ((0 < i→a≤x)∧(1 < i→b≤y))∧Below w.heap.size w wr) (fun v _=>2 - (intOf v).toNat)
 case atStart=>exact ⟨0,by omega,rfl,HA.out,HB.out,hJ ⟨fun h=>by omega,fun h=>by omega⟩,HK.out⟩
 case round =>
  clear HA HB HK
  obtain ⟨i,hi,rfl,ha,hb,hle,hbel⟩:=hrel
  have HA:=hJ ha
  have HB:=hJ hb
  have aG:=hJ hbel
  clear ha hb hbel
  have hi3:i=0∨i=1∨i=2:=by omega
  rcases hi3 with rfl | rfl | rfl
  ·skip
   obtain ⟨z0,z1⟩:=HA.out.cells
   obtain ⟨y0,y1⟩:=HB.out.cells
   have HS:Hid (∀ w',Below wr.heap.size wr w'→w'.cell? ⟨h,0,none⟩=some (.int .i64 a)∧w'.cell? ⟨(h+1),0,none⟩=some (.int .i64 x)∧Below wr.heap.size wr w'):=hJ (fun w' hb=>⟨(HA.out.new hb).cells.1,(HB.out.new hb).cells.1,hb⟩)
   have aH:=hJ (Below.refl wr.heap.size wr)
   clear z0 z1 y0 y1
   rcases cmpI_cases a x with ⟨hc,hv⟩ | ⟨hc,hv⟩ | ⟨hc,hv⟩
   ·have HO:=hJ hc
    clear hc hv
    go_wp2_with fail
    obtain ⟨v0,hv0⟩:=nmz (World.drew wr)
    have aB:=hJ (show Below wr.heap.size wr v0 by rw [←hv0]; exact (Below.refl _ _).drew)
    have aA:=hJ (bt aH.out aB.out)
    refine wp_region_held_drew (S:=(fun w':World=>w'.cell? ⟨h,0,none⟩=some (.int .i64 a)∧w'.cell? ⟨(h+1),0,none⟩=some (.int .i64 x)∧Below wr.heap.size wr w')) (by kernel_rfl) ?_ (fun hHeld=>?_)
    ·rw [hv0]
     exact HS.out _ aA.out
    rw [hv0] at hHeld ⊢
    clear hv0 aB
    refine tq 0 ?_
    refine tq 1 ?_
    refine tq 2 ?_
    refine tq 3 ?_
    refine tq 4 ?_
    refine tq 5 ?_
    refine tq 6 ?_
    try simp only [PT]
    refine ryy [7] ?_
    refine .cons rfl (fun K hK=>?_) .nil
    go_simp
    go_at_call 106
    refine (cmpi_any a x (-1) v0 (by have:=HO.out; omega)).mono ?_
    rintro e v1 ⟨rfl,hw⟩
    have hk:Below v0.heap.size v0 v1:=by rw [←hw]; exact Below.refl _ _
    clear hw
    have aC:=hJ hk
    go_wp2_with fail
    have aD:=hJ (bt aA.out aC.out)
    clear hHeld
    refine hK.out _ _ (HS.out _ aD.out) (fun hHeld=>?_)
    clear hK K hk aC aA
    refine tq 8 ?_
    try simp only [PT]
    refine wpAnyH_done (by kernel_rfl) ?_ _
    clear hHeld
    have HL:=hJ aD.out
    go_wp2
    go_roundw
    case rel=>exact ⟨1,by omega,by go_num,HA.out.new HL.out,HB.out.new HL.out,hJ ⟨fun _=>by have:=HO.out; omega,fun _=>by omega⟩,bt aG.out HL.out⟩
    case measure=>simp [intOf]
   ·have HO:=hJ hc
    clear hc hv
    go_wp2_with fail
    obtain ⟨v0,hv0⟩:=nmz (World.drew wr)
    have aB:=hJ (show Below wr.heap.size wr v0 by rw [←hv0]; exact (Below.refl _ _).drew)
    have aA:=hJ (bt aH.out aB.out)
    refine wp_region_held_drew (S:=(fun w':World=>w'.cell? ⟨h,0,none⟩=some (.int .i64 a)∧w'.cell? ⟨(h+1),0,none⟩=some (.int .i64 x)∧Below wr.heap.size wr w')) (by kernel_rfl) ?_ (fun hHeld=>?_)
    ·rw [hv0]
     exact HS.out _ aA.out
    rw [hv0] at hHeld ⊢
    clear hv0 aB
    refine tq 0 ?_
    refine tq 1 ?_
    refine tq 2 ?_
    refine tq 3 ?_
    refine tq 4 ?_
    refine tq 5 ?_
    refine tq 6 ?_
    try simp only [PT]
    refine ryy [7] ?_
    refine .cons rfl (fun K hK=>?_) .nil
    go_simp
    go_at_call 106
    refine (cmpi_any a x (0) v0 (by have:=HO.out; omega)).mono ?_
    rintro e v1 ⟨rfl,hw⟩
    have hk:Below v0.heap.size v0 v1:=by rw [←hw]; exact Below.refl _ _
    clear hw
    have aC:=hJ hk
    go_wp2_with fail
    have aD:=hJ (bt aA.out aC.out)
    clear hHeld
    refine hK.out _ _ (HS.out _ aD.out) (fun hHeld=>?_)
    clear hK K hk aC aA
    refine tq 8 ?_
    try simp only [PT]
    refine wpAnyH_done (by kernel_rfl) ?_ _
    clear hHeld
    have HL:=hJ aD.out
    go_wp2
    go_roundw
    case rel=>exact ⟨1,by omega,by go_num,HA.out.new HL.out,HB.out.new HL.out,hJ ⟨fun _=>by have:=HO.out; omega,fun _=>by omega⟩,bt aG.out HL.out⟩
    case measure=>simp [intOf]
   have HO:=hJ hc
   clear hc hv
   go_wp2_with fail
   obtain ⟨v0,hv0⟩:=nmz (World.drew wr)
   have aB:=hJ (show Below wr.heap.size wr v0 by rw [←hv0]; exact (Below.refl _ _).drew)
   have aA:=hJ (bt aH.out aB.out)
   refine wp_region_held_drew (S:=(fun w':World=>w'.cell? ⟨h,0,none⟩=some (.int .i64 a)∧w'.cell? ⟨(h+1),0,none⟩=some (.int .i64 x)∧Below wr.heap.size wr w')) (by kernel_rfl) ?_ (fun hHeld=>?_)
   ·rw [hv0]
    exact HS.out _ aA.out
   rw [hv0] at hHeld ⊢
   clear hv0 aB
   refine tq 0 ?_
   refine tq 1 ?_
   refine tq 2 ?_
   refine tq 3 ?_
   refine tq 4 ?_
   refine tq 5 ?_
   refine tq 6 ?_
   try simp only [PT]
   refine ryy [7] ?_
   refine .cons rfl (fun K hK=>?_) .nil
   go_simp
   go_at_call 106
   refine (cmpi_any a x (1) v0 (by have:=HO.out; omega)).mono ?_
   rintro e v1 ⟨rfl,hw⟩
   have hk:Below v0.heap.size v0 v1:=by rw [←hw]; exact Below.refl _ _
   clear hw
   have aC:=hJ hk
   go_wp2_with fail
   have aD:=hJ (bt aA.out aC.out)
   clear hHeld
   refine hK.out _ _ (HS.out _ aD.out) (fun hHeld=>?_)
   clear hK K hk aC aA
   refine tq 8 ?_
   try simp only [PT]
   refine wpAnyH_done (by kernel_rfl) ?_ _
   clear hHeld
   have HL:=hJ (bt aG.out aD.out)
   go_wp2
   go_ret
   exact ⟨by rw [decide_eq_false (by have:=HO.out; omega)]; rfl,HL.out⟩
  ·skip
   obtain ⟨z0,z1⟩:=HA.out.cells
   obtain ⟨y0,y1⟩:=HB.out.cells
   have HS:Hid (∀ w',Below wr.heap.size wr w'→w'.cell? ⟨h,1,none⟩=some (.int .i64 b)∧w'.cell? ⟨(h+1),1,none⟩=some (.int .i64 y)∧Below wr.heap.size wr w'):=hJ (fun w' hb=>⟨(HA.out.new hb).cells.2,(HB.out.new hb).cells.2,hb⟩)
   have aH:=hJ (Below.refl wr.heap.size wr)
   clear z0 z1 y0 y1
   rcases cmpI_cases b y with ⟨hc,hv⟩ | ⟨hc,hv⟩ | ⟨hc,hv⟩
   ·have HO:=hJ hc
    clear hc hv
    go_wp2_with fail
    obtain ⟨v0,hv0⟩:=nmz (World.drew wr)
    have aB:=hJ (show Below wr.heap.size wr v0 by rw [←hv0]; exact (Below.refl _ _).drew)
    have aA:=hJ (bt aH.out aB.out)
    refine wp_region_held_drew (S:=(fun w':World=>w'.cell? ⟨h,1,none⟩=some (.int .i64 b)∧w'.cell? ⟨(h+1),1,none⟩=some (.int .i64 y)∧Below wr.heap.size wr w')) (by kernel_rfl) ?_ (fun hHeld=>?_)
    ·rw [hv0]
     exact HS.out _ aA.out
    rw [hv0] at hHeld ⊢
    clear hv0 aB
    refine tq 0 ?_
    refine tq 1 ?_
    refine tq 2 ?_
    refine tq 3 ?_
    refine tq 4 ?_
    refine tq 5 ?_
    refine tq 6 ?_
    try simp only [PT]
    refine ryy [7] ?_
    refine .cons rfl (fun K hK=>?_) .nil
    go_simp
    go_at_call 106
    refine (cmpi_any b y (-1) v0 (by have:=HO.out; omega)).mono ?_
    rintro e v1 ⟨rfl,hw⟩
    have hk:Below v0.heap.size v0 v1:=by rw [←hw]; exact Below.refl _ _
    clear hw
    have aC:=hJ hk
    go_wp2_with fail
    have aD:=hJ (bt aA.out aC.out)
    clear hHeld
    refine hK.out _ _ (HS.out _ aD.out) (fun hHeld=>?_)
    clear hK K hk aC aA
    refine tq 8 ?_
    try simp only [PT]
    refine wpAnyH_done (by kernel_rfl) ?_ _
    clear hHeld
    have HL:=hJ aD.out
    go_wp2
    go_roundw
    case rel=>exact ⟨2,by omega,by go_num,HA.out.new HL.out,HB.out.new HL.out,hJ ⟨fun _=>hle.out.1 (by omega),fun _=>by have:=HO.out; omega⟩,bt aG.out HL.out⟩
    case measure=>simp [intOf]
   ·have HO:=hJ hc
    clear hc hv
    go_wp2_with fail
    obtain ⟨v0,hv0⟩:=nmz (World.drew wr)
    have aB:=hJ (show Below wr.heap.size wr v0 by rw [←hv0]; exact (Below.refl _ _).drew)
    have aA:=hJ (bt aH.out aB.out)
    refine wp_region_held_drew (S:=(fun w':World=>w'.cell? ⟨h,1,none⟩=some (.int .i64 b)∧w'.cell? ⟨(h+1),1,none⟩=some (.int .i64 y)∧Below wr.heap.size wr w')) (by kernel_rfl) ?_ (fun hHeld=>?_)
    ·rw [hv0]
     exact HS.out _ aA.out
    rw [hv0] at hHeld ⊢
    clear hv0 aB
    refine tq 0 ?_
    refine tq 1 ?_
    refine tq 2 ?_
    refine tq 3 ?_
    refine tq 4 ?_
    refine tq 5 ?_
    refine tq 6 ?_
    try simp only [PT]
    refine ryy [7] ?_
    refine .cons rfl (fun K hK=>?_) .nil
    go_simp
    go_at_call 106
    refine (cmpi_any b y (0) v0 (by have:=HO.out; omega)).mono ?_
    rintro e v1 ⟨rfl,hw⟩
    have hk:Below v0.heap.size v0 v1:=by rw [←hw]; exact Below.refl _ _
    clear hw
    have aC:=hJ hk
    go_wp2_with fail
    have aD:=hJ (bt aA.out aC.out)
    clear hHeld
    refine hK.out _ _ (HS.out _ aD.out) (fun hHeld=>?_)
    clear hK K hk aC aA
    refine tq 8 ?_
    try simp only [PT]
    refine wpAnyH_done (by kernel_rfl) ?_ _
    clear hHeld
    have HL:=hJ aD.out
    go_wp2
    go_roundw
    case rel=>exact ⟨2,by omega,by go_num,HA.out.new HL.out,HB.out.new HL.out,hJ ⟨fun _=>hle.out.1 (by omega),fun _=>by have:=HO.out; omega⟩,bt aG.out HL.out⟩
    case measure=>simp [intOf]
   have HO:=hJ hc
   clear hc hv
   go_wp2_with fail
   obtain ⟨v0,hv0⟩:=nmz (World.drew wr)
   have aB:=hJ (show Below wr.heap.size wr v0 by rw [←hv0]; exact (Below.refl _ _).drew)
   have aA:=hJ (bt aH.out aB.out)
   refine wp_region_held_drew (S:=(fun w':World=>w'.cell? ⟨h,1,none⟩=some (.int .i64 b)∧w'.cell? ⟨(h+1),1,none⟩=some (.int .i64 y)∧Below wr.heap.size wr w')) (by kernel_rfl) ?_ (fun hHeld=>?_)
   ·rw [hv0]
    exact HS.out _ aA.out
   rw [hv0] at hHeld ⊢
   clear hv0 aB
   refine tq 0 ?_
   refine tq 1 ?_
   refine tq 2 ?_
   refine tq 3 ?_
   refine tq 4 ?_
   refine tq 5 ?_
   refine tq 6 ?_
   try simp only [PT]
   refine ryy [7] ?_
   refine .cons rfl (fun K hK=>?_) .nil
   go_simp
   go_at_call 106
   refine (cmpi_any b y (1) v0 (by have:=HO.out; omega)).mono ?_
   rintro e v1 ⟨rfl,hw⟩
   have hk:Below v0.heap.size v0 v1:=by rw [←hw]; exact Below.refl _ _
   clear hw
   have aC:=hJ hk
   go_wp2_with fail
   have aD:=hJ (bt aA.out aC.out)
   clear hHeld
   refine hK.out _ _ (HS.out _ aD.out) (fun hHeld=>?_)
   clear hK K hk aC aA
   refine tq 8 ?_
   try simp only [PT]
   refine wpAnyH_done (by kernel_rfl) ?_ _
   clear hHeld
   have HL:=hJ (bt aG.out aD.out)
   go_wp2
   go_ret
   exact ⟨by rw [decide_eq_false (by have:=HO.out; omega)]; rfl,HL.out⟩
  ·go_wp2
   go_ret
   exact ⟨by rw [decide_eq_true ⟨hle.out.1 (by omega),hle.out.2 (by omega)⟩]; rfl,aG.out⟩
/-- What Valid returns. -/
def vdC (x y:Int):Int:=if (-1073741824≤x ∧ -1073741824≤y)∧(x≤1073741824∧y≤1073741824) then 0 else 5
theorem valid_any (x y:Int) (w:World) :
  Calls Tryz.prog 75 #[.agg #[.int .i64 x,.int .i64 y]] w fun e w'=>e=.returned (.int .i64 (vdC x y))∧Below w.heap.size w w':=by
 obtain ⟨W,hW⟩:∃ W,w.alloc (.cells #[.int .i64 x,.int .i64 y] 23)=W:=⟨_,rfl⟩
 have HK:=hJ (show Below w.heap.size w W by rw [←hW]; exact (Below.refl _ w).alloc (Nat.le_refl _) _)
 have HA:=hJ (show P2 23 W w.heap.size (.int .i64 x) (.int .i64 y) by rw [←hW]; exact P2.lit _ _ _ _)
 obtain ⟨a0,a1⟩:=HA.out.cells
 go_enter Tryz.func75,Tryz.ntmps75
 go_wp2_with fail
 refine (integers_any x y W).mono ?_
 rintro e w1 ⟨rfl,hb1⟩
 have aC:=hJ (bt HK.out hb1)
 have aD:=hJ (HA.out.new hb1)
 clear hb1 a0 a1
 go_wp2_with fail
 refine (notgr_any (-1073741824) (-1073741824) x y w1).mono ?_
 rintro e w2 ⟨rfl,hb2⟩
 have aA:=hJ (bt aC.out hb2)
 have aG:=hJ (aD.out.new hb2)
 clear hb2
 by_cases h1 : -1073741824≤x ∧ -1073741824≤y
 ·rw [decide_eq_true h1]
  have aH:=hJ h1
  clear h1
  obtain ⟨a0,a1⟩:=aG.out.cells
  go_wp2_with fail
  refine (integers_any x y w2).mono ?_
  rintro e w3 ⟨rfl,hb3⟩
  have aI:=hJ (bt aA.out hb3)
  clear hb3
  go_wp2_with fail
  refine (notgr_any x y 1073741824 1073741824 w3).mono ?_
  rintro e w4 ⟨rfl,hb4⟩
  have aB:=hJ (bt aI.out hb4)
  clear hb4
  by_cases h2:x≤1073741824∧y≤1073741824
  ·rw [decide_eq_true h2]
   have HV:=hJ (show vdC x y=0 from if_pos ⟨aH.out,h2⟩)
   clear h2
   go_wp2
   go_ret
   exact ⟨by rw [HV.out]; rfl,aB.out⟩
  rw [decide_eq_false h2]
  have HV:=hJ (show vdC x y=5 from if_neg (fun h=>h2 h.2))
  clear h2
  go_wp2
  go_ret
  exact ⟨by rw [HV.out]; rfl,aB.out⟩
 ·rw [decide_eq_false h1]
  have HV:=hJ (show vdC x y=5 from if_neg (fun h=>h1 h.1))
  clear h1
  go_wp2
  go_ret
  exact ⟨by rw [HV.out]; rfl,aA.out⟩
theorem mk_one (n:Int):mkP n 1=n∧mkQ n 1=1∧mkC 1=0:=by
 have h:mkD n 1=1:=by
  unfold mkD
  rw [if_neg (by decide)]
  simp
 refine ⟨?_,?_,rfl⟩
 ·rw [mkP,if_neg (by decide),h,Int.ediv_one]
 ·rw [mkQ,if_neg (by decide),h]; rfl
theorem ofone_any (n:Int) (w:World) (hn:(Lit.int .i64 n).wf=true) :
  Calls Tryz.prog 52 #[.int .i64 n] w (RetFE n 1 0 w):=by
 have HN:=hJ hn
 clear hn
 obtain ⟨W,hW⟩:∃ W,w.alloc (.cells #[.bool false,.slice none 0 0,.bool false,.slice none 0 0] 35)=W:=⟨_,rfl⟩
 have HK:=hJ (show Below w.heap.size w W by rw [←hW]; exact (Below.refl _ w).alloc (Nat.le_refl _) _)
 have HZ:=hJ (show P4 35 W w.heap.size (.bool false) (.slice none 0 0) (.bool false) (.slice none 0 0) by rw [←hW]; exact P4.lit _ _ _ _ _ _)
 go_enter Tryz.func52,Tryz.ntmps52
 go_wp2_with fail
 refine (fof_any n 1 W HN.out (by decide)).mono ?_
 rw [(mk_one n).1,(mk_one n).2.1,(mk_one n).2.2]
 rintro e w3 ⟨s3,A3,n3,c3,s4,A4,n4,c4,rfl,hr3,hb3⟩
 have aB:=hJ hr3
 have aC:=hJ (bt HK.out hb3)
 have aA:=hJ (HZ.out.new hb3)
 clear hr3 hb3
 obtain ⟨z0,z1,z2,z3⟩:=aA.out.cells
 have f0:=aA.out.frozen 0
 have f1:=aA.out.frozen 1
 have f2:=aA.out.frozen 2
 have f3:=aA.out.frozen 3
 go_wp2
 exact bodyPost_ret (results_cell1 rfl _ _ _ _ _ _ _ rfl (aA.out.all (.bool s3) (.slice A3 n3 c3) (.bool s4) (.slice A4 n4 c4)) Tryz.underlying35 rfl F_size) rfl (RetFE.stored aB.out aA.out aC.out (Nat.le_refl _) _ _ _ _)
/-- Block b is just eight cells, none frozen. -/
def P8 (t:TypeId) (w:World) (b:Nat) (v0 v1 v2 v3 v4 v5 v6 v7:Value):Prop:=w.heap[b]?=some (.cells #[v0,v1,v2,v3,v4,v5,v6,v7] t (0,0))
section
variable {t:TypeId} {w w':World} {b:Nat} {v0 v1 v2 v3 v4 v5 v6 v7:Value}
theorem P8.lt (h:P8 t w b v0 v1 v2 v3 v4 v5 v6 v7):b < w.heap.size:=(Array.getElem?_eq_some_iff.1 h).1
theorem P8.cells (h:P8 t w b v0 v1 v2 v3 v4 v5 v6 v7):(w.cell? ⟨b,0,none⟩=some v0∧w.cell? ⟨b,1,none⟩=some v1∧w.cell? ⟨b,2,none⟩=some v2∧w.cell? ⟨b,3,none⟩=some v3)∧w.cell? ⟨b,4,none⟩=some v4∧w.cell? ⟨b,5,none⟩=some v5∧w.cell? ⟨b,6,none⟩=some v6∧w.cell? ⟨b,7,none⟩=some v7:=by
 unfold P8 at h
 refine ⟨⟨?_,?_,?_,?_⟩,?_,?_,?_,?_⟩ <;> simp [World.cell?,h]
theorem P8.frozen (h:P8 t w b v0 v1 v2 v3 v4 v5 v6 v7) (i:Nat):w.frozen? ⟨b,i,none⟩=false:=by
 unfold P8 at h
 simp [World.frozen?,h]
theorem P8.new (h:P8 t w b v0 v1 v2 v3 v4 v5 v6 v7) (hb:Below w.heap.size w w'):P8 t w' b v0 v1 v2 v3 v4 v5 v6 v7:=(hb.block b h.lt).trans h
theorem P8.lit (w:World) (t:TypeId) (v0 v1 v2 v3 v4 v5 v6 v7:Value):P8 t (w.alloc (.cells #[v0,v1,v2,v3,v4,v5,v6,v7] t)) w.heap.size v0 v1 v2 v3 v4 v5 v6 v7:=heap_alloc_new w _
theorem P8.far (h:P8 t w b v0 v1 v2 v3 v4 v5 v6 v7) {p:Addr} (hp:b≠p.block) (u:Value):P8 t (w.setCell p u) b v0 v1 v2 v3 v4 v5 v6 v7:=(Below.heap_setCell w p u b hp).trans h
theorem P8.lo (h:P8 t w b v0 v1 v2 v3 v4 v5 v6 v7) (u0 u1 u2 u3:Value):P8 t ((((w.setCell ⟨b,0,none⟩ u0).setCell ⟨b,1,none⟩ u1).setCell ⟨b,2,none⟩ u2).setCell ⟨b,3,none⟩ u3) b u0 u1 u2 u3 v4 v5 v6 v7:=by
 unfold P8 at h ⊢
 simp [World.setCell,Array.getElem?_modify,h]
theorem P8.hi (h:P8 t w b v0 v1 v2 v3 v4 v5 v6 v7) (u0 u1 u2 u3:Value):P8 t ((((w.setCell ⟨b,4,none⟩ u0).setCell ⟨b,5,none⟩ u1).setCell ⟨b,6,none⟩ u2).setCell ⟨b,7,none⟩ u3) b v0 v1 v2 v3 u0 u1 u2 u3:=by
 unfold P8 at h ⊢
 simp [World.setCell,Array.getElem?_modify,h]
theorem P8.all (h:P8 t w b v0 v1 v2 v3 v4 v5 v6 v7) (u0 u1 u2 u3 u4 u5 u6 u7:Value):P8 t ((((((((w.setCell ⟨b,0,none⟩ u0).setCell ⟨b,1,none⟩ u1).setCell ⟨b,2,none⟩ u2).setCell ⟨b,3,none⟩ u3).setCell ⟨b,4,none⟩ u4).setCell ⟨b,5,none⟩ u5).setCell ⟨b,6,none⟩ u6).setCell ⟨b,7,none⟩ u7) b u0 u1 u2 u3 u4 u5 u6 u7:=by
 unfold P8 at h ⊢
 simp [World.setCell,Array.getElem?_modify,h]
end
/-- A block of no words of 32 bits. -/
def NoW (w:World) (b:Nat):Prop:=∀ o x,w.cell? ⟨b,o,none⟩≠some (.int .u32 x)
def isW:Value→Bool
 | .int .u32 _=>true
 | _=>false
theorem noW_of {w:World} {b:Nat} {cs:Array Value} {t:TypeId} (h:w.heap[b]?=some (.cells cs t (0,0))) (hn:cs.toList.all (fun v => !isW v)=true):NoW w b:=by
 intro o x e
 rw [cell_of_row w b o _ t (0,0) h] at e
 have hm:Value.int .u32 x ∈ cs.toList:=Array.mem_toList_iff.2 (Array.mem_of_getElem? e)
 have:=List.all_eq_true.1 hn _ hm
 simp [isW] at this
theorem PIo.apart {ok:Nat→Prop} {w w':World} {s:Bool} {A:Option Addr} {n c:Nat} {x:Int} {b:Nat} (h:PIo ok w s A n c x) (hk:Kp (· = b) w w') (hn:NoW w b):PIo ok w' s A n c x:=⟨h.1,h.2.1,h.2.2.apart hk (fun g e _ o x=>by subst e; exact hn o x)⟩
theorem PF.apart {w w':World} {s s':Bool} {A A':Option Addr} {n c n' c':Nat} {p q:Int} {b:Nat} (h:PF w s A n c s' A' n' c' p q) (hk:Kp (· = b) w w') (hn:NoW w b):PF w' s A n c s' A' n' c' p q:=⟨PIo.apart h.1 hk hn,PIo.apart h.2 hk hn⟩
theorem kp4 (w:World) (b o:Nat) (u0 u1 u2 u3:Value):Kp (· = b) w ((((w.setCell ⟨b,o,none⟩ u0).setCell ⟨b,o+1,none⟩ u1).setCell ⟨b,o+2,none⟩ u2).setCell ⟨b,o+3,none⟩ u3) :=
 ((((Kp.refl (· = b) w).setCell (p:=⟨b,o,none⟩) (fun _=>rfl) u0).setCell (p:=⟨b,o+1,none⟩) (fun _=>rfl) u1).setCell (p:=⟨b,o+2,none⟩) (fun _=>rfl) u2).setCell (p:=⟨b,o+3,none⟩) (fun _=>rfl) u3
theorem below4 {w0 w:World} {B b:Nat} (h:Below B w0 w) (hb:B≤b) (o:Nat) (u0 u1 u2 u3:Value):Below B w0 ((((w.setCell ⟨b,o,none⟩ u0).setCell ⟨b,o+1,none⟩ u1).setCell ⟨b,o+2,none⟩ u2).setCell ⟨b,o+3,none⟩ u3) :=
 (((h.setCell (p:=⟨b,o,none⟩) hb u0).setCell (p:=⟨b,o+1,none⟩) hb u1).setCell (p:=⟨b,o+2,none⟩) hb u2).setCell (p:=⟨b,o+3,none⟩) hb u3
theorem kp8 (w:World) (b:Nat) (u0 u1 u2 u3 u4 u5 u6 u7:Value):Kp (· = b) w ((((((((w.setCell ⟨b,0,none⟩ u0).setCell ⟨b,1,none⟩ u1).setCell ⟨b,2,none⟩ u2).setCell ⟨b,3,none⟩ u3).setCell ⟨b,4,none⟩ u4).setCell ⟨b,5,none⟩ u5).setCell ⟨b,6,none⟩ u6).setCell ⟨b,7,none⟩ u7) :=
 ((((((((Kp.refl (· = b) w).setCell (p:=⟨b,0,none⟩) (fun _=>rfl) u0).setCell (p:=⟨b,1,none⟩) (fun _=>rfl) u1).setCell (p:=⟨b,2,none⟩) (fun _=>rfl) u2).setCell (p:=⟨b,3,none⟩) (fun _=>rfl) u3).setCell (p:=⟨b,4,none⟩) (fun _=>rfl) u4).setCell (p:=⟨b,5,none⟩) (fun _=>rfl) u5).setCell (p:=⟨b,6,none⟩) (fun _=>rfl) u6).setCell (p:=⟨b,7,none⟩) (fun _=>rfl) u7
theorem below8 {w0 w:World} {B b:Nat} (h:Below B w0 w) (hb:B≤b) (u0 u1 u2 u3 u4 u5 u6 u7:Value):Below B w0 ((((((((w.setCell ⟨b,0,none⟩ u0).setCell ⟨b,1,none⟩ u1).setCell ⟨b,2,none⟩ u2).setCell ⟨b,3,none⟩ u3).setCell ⟨b,4,none⟩ u4).setCell ⟨b,5,none⟩ u5).setCell ⟨b,6,none⟩ u6).setCell ⟨b,7,none⟩ u7) :=
 (((((((h.setCell (p:=⟨b,0,none⟩) hb u0).setCell (p:=⟨b,1,none⟩) hb u1).setCell (p:=⟨b,2,none⟩) hb u2).setCell (p:=⟨b,3,none⟩) hb u3).setCell (p:=⟨b,4,none⟩) hb u4).setCell (p:=⟨b,5,none⟩) hb u5).setCell (p:=⟨b,6,none⟩) hb u6).setCell (p:=⟨b,7,none⟩) hb u7
theorem T8_size:(Tryz.prog.info? 101).map (·.size)=some 8:=by kernel_rfl
theorem TP_size:(Tryz.prog.info? 37).map (·.size)=some 8:=by kernel_rfl
/-- What a function returns that returns two fractions and an error. -/
def RetTT (p q u v code:Int) (w:World) (e:Ending) (w':World):Prop:=∃ (s0:Bool) (A0:Option Addr) (n0 c0:Nat) (t0:Bool) (B0:Option Addr) (m0 d0:Nat) (s1:Bool) (A1:Option Addr) (n1 c1:Nat) (t1:Bool) (B1:Option Addr) (m1 d1:Nat),e=.returned (.tuple #[.agg #[.bool s0,.slice A0 n0 c0,.bool t0,.slice B0 m0 d0,.bool s1,.slice A1 n1 c1,.bool t1,.slice B1 m1 d1],.int .i64 code])∧PF w' s0 A0 n0 c0 t0 B0 m0 d0 p q∧PF w' s1 A1 n1 c1 t1 B1 m1 d1 u v∧Below w.heap.size w w'
/-- The same without an error. -/
def RetTw (p q u v:Int) (w:World) (e:Ending) (w':World):Prop:=∃ (s0:Bool) (A0:Option Addr) (n0 c0:Nat) (t0:Bool) (B0:Option Addr) (m0 d0:Nat) (s1:Bool) (A1:Option Addr) (n1 c1:Nat) (t1:Bool) (B1:Option Addr) (m1 d1:Nat),e=.returned (.agg #[.bool s0,.slice A0 n0 c0,.bool t0,.slice B0 m0 d0,.bool s1,.slice A1 n1 c1,.bool t1,.slice B1 m1 d1])∧PF w' s0 A0 n0 c0 t0 B0 m0 d0 p q∧PF w' s1 A1 n1 c1 t1 B1 m1 d1 u v∧Below w.heap.size w w'
theorem ix0 (x y:Int) (wx:World):(Instr.index 104 (.agg #[.int .i64 x,.int .i64 y]) (.int .i64 0)).run Tryz.prog wx=.ok (.int .i64 x) wx:=by
 simp [Instr.index,run_underlying Tryz.underlying104,asIntOf,go_sem]
theorem ix1 (x y:Int) (wx:World):(Instr.index 104 (.agg #[.int .i64 x,.int .i64 y]) (.int .i64 1)).run Tryz.prog wx=.ok (.int .i64 y) wx:=by
 simp [Instr.index,run_underlying Tryz.underlying104,asIntOf,go_sem]
theorem PF.zero (w:World):PF w false none 0 0 false none 0 0 0 1:=⟨PI.zero w,PI.zero w⟩
theorem eachof_any (x y:Int) (w:World) (hx:(Lit.int .i64 x).wf=true) (hy:(Lit.int .i64 y).wf=true) :
  Calls Tryz.prog 50 #[.agg #[.int .i64 x,.int .i64 y],.func (.func 52) #[] #[]] w (RetTT x 1 y 1 0 w):=by
 have HX:=hJ (And.intro hx hy)
 clear hx hy
 obtain ⟨W,hW⟩:∃ W,((w.alloc (.cells #[.int .i64 x,.int .i64 y] 104)).alloc (.cells #[.bool false,.slice none 0 0,.bool false,.slice none 0 0,.bool false,.slice none 0 0,.bool false,.slice none 0 0] 101)).alloc (.cells #[.bool false,.slice none 0 0,.bool false,.slice none 0 0,.bool false,.slice none 0 0,.bool false,.slice none 0 0] 101)=W:=⟨_,rfl⟩
 have HK:=hJ (show Below w.heap.size w W by rw [←hW]; exact (((Below.refl _ w).alloc (Nat.le_refl _) _).alloc (by simp) _).alloc (by simp; omega) _)
 have HA:=hJ (show P2 104 W w.heap.size (.int .i64 x) (.int .i64 y) by rw [←hW]; exact ((P2.lit w _ _ _).alloc _).alloc _)
 have HZ:=hJ (show P8 101 W (w.heap.size+1) (.bool false) (.slice none 0 0) (.bool false) (.slice none 0 0) (.bool false) (.slice none 0 0) (.bool false) (.slice none 0 0) by
  rw [←hW]
  have h0:=P8.lit (w.alloc (.cells #[.int .i64 x,.int .i64 y] 104)) 101 (.bool false) (.slice none 0 0) (.bool false) (.slice none 0 0) (.bool false) (.slice none 0 0) (.bool false) (.slice none 0 0)
  rw [World.size_alloc] at h0
  exact h0.new ((Below.refl _ _).alloc (Nat.le_refl _) _))
 have HR:=hJ (show P8 101 W (w.heap.size+1+1) (.bool false) (.slice none 0 0) (.bool false) (.slice none 0 0) (.bool false) (.slice none 0 0) (.bool false) (.slice none 0 0) by
  rw [←hW]
  have h0:=P8.lit ((w.alloc (.cells #[.int .i64 x,.int .i64 y] 104)).alloc (.cells #[.bool false,.slice none 0 0,.bool false,.slice none 0 0,.bool false,.slice none 0 0,.bool false,.slice none 0 0] 101)) 101 (.bool false) (.slice none 0 0) (.bool false) (.slice none 0 0) (.bool false) (.slice none 0 0) (.bool false) (.slice none 0 0)
  rw [World.size_alloc,World.size_alloc] at h0
  exact h0)
 obtain ⟨h,hh⟩:∃ h,w.heap.size=h:=⟨_,rfl⟩
 have HH:=hJ hh
 rw [hh] at HA HZ HR
 obtain ⟨a0,a1⟩:=HA.out.cells
 go_enter Tryz.func50,Tryz.ntmps50
 go_wp2_with fail
 clear hW hh a0 a1
 go_loopw [11] (fun v wr=>∃ (i:Nat) (s0:Bool) (A0:Option Addr) (n0 c0:Nat) (t0:Bool) (B0:Option Addr) (m0 d0:Nat) (s1:Bool) (A1:Option Addr) (n1 c1:Nat) (t1:Bool) (B1:Option Addr) (m1 d1:Nat),i≤2∧v=.int .i64 (i:Int)∧P8 101 wr (h+1) (.bool false) (.slice none 0 0) (.bool false) (.slice none 0 0) (.bool false) (.slice none 0 0) (.bool false) (.slice none 0 0)∧P8 101 wr (h+1+1) (.bool s0) (.slice A0 n0 c0) (.bool t0) (.slice B0 m0 d0) (.bool s1) (.slice A1 n1 c1) (.bool t1) (.slice B1 m1 d1)∧PF wr s0 A0 n0 c0 t0 B0 m0 d0 (if 0 < i then x else 0) 1∧PF wr s1 A1 n1 c1 t1 B1 m1 d1 (if 1 < i then y else 0) 1∧Below w.heap.size w wr) (fun v _=>2 - (intOf v).toNat)
 case atStart=>exact ⟨0,_,_,_,_,_,_,_,_,_,_,_,_,_,_,_,_,by omega,rfl,HZ.out,HR.out,PF.zero W,PF.zero W,HK.out⟩
 case round =>
  clear HA HZ HR HK
  obtain ⟨i,s0,A0,n0,c0,t0,B0,m0,d0,s1,A1,n1,c1,t1,B1,m1,d1,hi,rfl,hz,hr,h0,h1,hbel⟩:=hrel
  have HZ:=hJ hz
  have HR:=hJ hr
  have H0:=hJ h0
  have H1:=hJ h1
  have HB:=hJ hbel
  clear hz hr h0 h1 hbel
  have hi3:i=0∨i=1∨i=2:=by omega
  rcases hi3 with rfl | rfl | rfl
  ·rw [if_neg (show ¬ 0 < 0 by omega)] at H0
   rw [if_neg (show ¬ 1 < 0 by omega)] at H1
   have hix:=ix0 x y
   go_wp2_with fail
   clear hix
   refine (ofone_any x wr HX.out.1).mono ?_
   rintro e w2 ⟨s2,A2,n2,c2,t2,B2,m2,d2,rfl,hr2,hb2⟩
   have aB:=hJ hr2
   have aC:=hJ (HZ.out.new hb2)
   have aA:=hJ (HR.out.new hb2)
   have aD:=hJ (H1.out.new hb2)
   have aG:=hJ (bt HB.out hb2)
   clear hr2 hb2
   obtain ⟨⟨p0,p1,p2,p3⟩,p4,p5,p6,p7⟩:=aA.out.cells
   have f0:=aA.out.frozen 0
   have f1:=aA.out.frozen 1
   have f2:=aA.out.frozen 2
   have f3:=aA.out.frozen 3
   obtain ⟨U,hU⟩:∃ U,(((w2.setCell ⟨h+1+1,0,none⟩ (.bool s2)).setCell ⟨h+1+1,1,none⟩ (.slice A2 n2 c2)).setCell ⟨h+1+1,2,none⟩ (.bool t2)).setCell ⟨h+1+1,3,none⟩ (.slice B2 m2 d2)=U:=⟨_,rfl⟩
   have hno:NoW w2 (h+1+1):=noW_of aA.out rfl
   have aH:=hJ (show P8 101 U (h+1+1) (.bool s2) (.slice A2 n2 c2) (.bool t2) (.slice B2 m2 d2) (.bool s1) (.slice A1 n1 c1) (.bool t1) (.slice B1 m1 d1) by rw [←hU]; exact aA.out.lo _ _ _ _)
   have aI:=hJ (show P8 101 U (h+1) (.bool false) (.slice none 0 0) (.bool false) (.slice none 0 0) (.bool false) (.slice none 0 0) (.bool false) (.slice none 0 0) by rw [←hU]; exact (((aC.out.far (p:=⟨h+1+1,0,none⟩) (by simp) _).far (p:=⟨h+1+1,1,none⟩) (by simp) _).far (p:=⟨h+1+1,2,none⟩) (by simp) _).far (p:=⟨h+1+1,3,none⟩) (by simp) _)
   have aJ:=hJ (show PF U s2 A2 n2 c2 t2 B2 m2 d2 x 1 by rw [←hU]; exact PF.apart aB.out (kp4 w2 (h+1+1) 0 _ _ _ _) hno)
   have aK:=hJ (show PF U s1 A1 n1 c1 t1 B1 m1 d1 0 1 by rw [←hU]; exact PF.apart aD.out (kp4 w2 (h+1+1) 0 _ _ _ _) hno)
   have aL:=hJ (show Below w.heap.size w U by rw [←hU]; exact below4 aG.out (by rw [HH.out]; omega) 0 _ _ _ _)
   clear hno aB aC aA aD aG HZ HR H0 H1 HB
   go_wp2
   go_roundw
   case rel=>exact ⟨1,s2,A2,n2,c2,t2,B2,m2,d2,s1,A1,n1,c1,t1,B1,m1,d1,by omega,by go_num,aI.out,aH.out,aJ.out,aK.out,aL.out⟩
   case measure=>simp [intOf]
  ·rw [if_neg (show ¬ 1 < 1 by omega)] at H1
   rw [if_pos (show 0 < 1 by omega)] at H0
   have hix:=ix1 x y
   go_wp2_with fail
   clear hix
   refine (ofone_any y wr HX.out.2).mono ?_
   rintro e w2 ⟨s2,A2,n2,c2,t2,B2,m2,d2,rfl,hr2,hb2⟩
   have aB:=hJ hr2
   have aC:=hJ (HZ.out.new hb2)
   have aA:=hJ (HR.out.new hb2)
   have aD:=hJ (H0.out.new hb2)
   have aG:=hJ (bt HB.out hb2)
   clear hr2 hb2
   obtain ⟨⟨p0,p1,p2,p3⟩,p4,p5,p6,p7⟩:=aA.out.cells
   have f0:=aA.out.frozen 4
   have f1:=aA.out.frozen 5
   have f2:=aA.out.frozen 6
   have f3:=aA.out.frozen 7
   obtain ⟨U,hU⟩:∃ U,(((w2.setCell ⟨h+1+1,4,none⟩ (.bool s2)).setCell ⟨h+1+1,5,none⟩ (.slice A2 n2 c2)).setCell ⟨h+1+1,6,none⟩ (.bool t2)).setCell ⟨h+1+1,7,none⟩ (.slice B2 m2 d2)=U:=⟨_,rfl⟩
   have hno:NoW w2 (h+1+1):=noW_of aA.out rfl
   have aH:=hJ (show P8 101 U (h+1+1) (.bool s0) (.slice A0 n0 c0) (.bool t0) (.slice B0 m0 d0) (.bool s2) (.slice A2 n2 c2) (.bool t2) (.slice B2 m2 d2) by rw [←hU]; exact aA.out.hi _ _ _ _)
   have aI:=hJ (show P8 101 U (h+1) (.bool false) (.slice none 0 0) (.bool false) (.slice none 0 0) (.bool false) (.slice none 0 0) (.bool false) (.slice none 0 0) by rw [←hU]; exact (((aC.out.far (p:=⟨h+1+1,4,none⟩) (by simp) _).far (p:=⟨h+1+1,5,none⟩) (by simp) _).far (p:=⟨h+1+1,6,none⟩) (by simp) _).far (p:=⟨h+1+1,7,none⟩) (by simp) _)
   have aJ:=hJ (show PF U s2 A2 n2 c2 t2 B2 m2 d2 y 1 by rw [←hU]; exact PF.apart aB.out (kp4 w2 (h+1+1) 4 _ _ _ _) hno)
   have aK:=hJ (show PF U s0 A0 n0 c0 t0 B0 m0 d0 x 1 by rw [←hU]; exact PF.apart aD.out (kp4 w2 (h+1+1) 4 _ _ _ _) hno)
   have aL:=hJ (show Below w.heap.size w U by rw [←hU]; exact below4 aG.out (by rw [HH.out]; omega) 4 _ _ _ _)
   clear hno aB aC aA aD aG HZ HR H0 H1 HB
   go_wp2
   go_roundw
   case rel=>exact ⟨2,s0,A0,n0,c0,t0,B0,m0,d0,s2,A2,n2,c2,t2,B2,m2,d2,by omega,by go_num,aI.out,aH.out,aK.out,aJ.out,aL.out⟩
   case measure=>simp [intOf]
  ·rw [if_pos (show 0 < 2 by omega)] at H0
   rw [if_pos (show 1 < 2 by omega)] at H1
   obtain ⟨⟨p0,p1,p2,p3⟩,p4,p5,p6,p7⟩:=HR.out.cells
   obtain ⟨⟨z0,z1,z2,z3⟩,z4,z5,z6,z7⟩:=HZ.out.cells
   have f0:=HZ.out.frozen 0
   have f1:=HZ.out.frozen 1
   have f2:=HZ.out.frozen 2
   have f3:=HZ.out.frozen 3
   have f4:=HZ.out.frozen 4
   have f5:=HZ.out.frozen 5
   have f6:=HZ.out.frozen 6
   have f7:=HZ.out.frozen 7
   have aM:=hJ (show NoW wr (h+1) from noW_of HZ.out rfl)
   go_wp2
   exact bodyPost_ret (results_cell1 rfl _ _ _ _ _ _ _ rfl (HZ.out.all (.bool s0) (.slice A0 n0 c0) (.bool t0) (.slice B0 m0 d0) (.bool s1) (.slice A1 n1 c1) (.bool t1) (.slice B1 m1 d1)) Tryz.underlying101 rfl T8_size) rfl ⟨s0,A0,n0,c0,t0,B0,m0,d0,s1,A1,n1,c1,t1,B1,m1,d1,rfl,PF.apart H0.out (kp8 wr (h+1) _ _ _ _ _ _ _ _) aM.out,PF.apart H1.out (kp8 wr (h+1) _ _ _ _ _ _ _ _) aM.out,below8 HB.out (by rw [HH.out]; omega) _ _ _ _ _ _ _ _⟩
theorem rational_any (p q u v:Int) (s0:Bool) (A0:Option Addr) (n0 c0:Nat) (t0:Bool) (B0:Option Addr) (m0 d0:Nat) (s1:Bool) (A1:Option Addr) (n1 c1:Nat) (t1:Bool) (B1:Option Addr) (m1 d1:Nat) (code:Int) (w:World) (hx:PF w s0 A0 n0 c0 t0 B0 m0 d0 p q) (hy:PF w s1 A1 n1 c1 t1 B1 m1 d1 u v) :
  Calls Tryz.prog 49 #[.agg #[.bool s0,.slice A0 n0 c0,.bool t0,.slice B0 m0 d0,.bool s1,.slice A1 n1 c1,.bool t1,.slice B1 m1 d1],.int .i64 code] w (RetTT p q u v code w):=by
 obtain ⟨W,hW⟩:∃ W,(w.alloc (.cells #[.bool s0,.slice A0 n0 c0,.bool t0,.slice B0 m0 d0,.bool s1,.slice A1 n1 c1,.bool t1,.slice B1 m1 d1] 101)).alloc (.cells #[.bool false,.slice none 0 0,.bool false,.slice none 0 0,.bool false,.slice none 0 0,.bool false,.slice none 0 0] 37)=W:=⟨_,rfl⟩
 have HK:=hJ (show Below w.heap.size w W by rw [←hW]; exact ((Below.refl _ w).alloc (Nat.le_refl _) _).alloc (by simp) _)
 have HA:=hJ (show P8 101 W w.heap.size (.bool s0) (.slice A0 n0 c0) (.bool t0) (.slice B0 m0 d0) (.bool s1) (.slice A1 n1 c1) (.bool t1) (.slice B1 m1 d1) by rw [←hW]; exact (P8.lit w _ _ _ _ _ _ _ _ _).new ((Below.refl _ _).alloc (Nat.le_refl _) _))
 have HZ:=hJ (show P8 37 W (w.heap.size+1) (.bool false) (.slice none 0 0) (.bool false) (.slice none 0 0) (.bool false) (.slice none 0 0) (.bool false) (.slice none 0 0) by
  rw [←hW]
  have h0:=P8.lit (w.alloc (.cells #[.bool s0,.slice A0 n0 c0,.bool t0,.slice B0 m0 d0,.bool s1,.slice A1 n1 c1,.bool t1,.slice B1 m1 d1] 101)) 37 (.bool false) (.slice none 0 0) (.bool false) (.slice none 0 0) (.bool false) (.slice none 0 0) (.bool false) (.slice none 0 0)
  rw [World.size_alloc] at h0
  exact h0)
 have H0:=hJ (hx.new HK.out)
 have H1:=hJ (hy.new HK.out)
 clear hx hy
 obtain ⟨⟨p0,p1,p2,p3⟩,p4,p5,p6,p7⟩:=HA.out.cells
 obtain ⟨⟨z0,z1,z2,z3⟩,z4,z5,z6,z7⟩:=HZ.out.cells
 have f0:=HZ.out.frozen 0
 have f1:=HZ.out.frozen 1
 have f2:=HZ.out.frozen 2
 have f3:=HZ.out.frozen 3
 have f4:=HZ.out.frozen 4
 have f5:=HZ.out.frozen 5
 have f6:=HZ.out.frozen 6
 have f7:=HZ.out.frozen 7
 have aA:=hJ (show NoW W (w.heap.size+1) from noW_of HZ.out rfl)
 go_enter Tryz.func49,Tryz.ntmps49
 go_wp2
 exact bodyPost_ret (results_cell1 rfl _ _ _ _ _ _ _ rfl (HZ.out.all (.bool s0) (.slice A0 n0 c0) (.bool t0) (.slice B0 m0 d0) (.bool s1) (.slice A1 n1 c1) (.bool t1) (.slice B1 m1 d1)) Tryz.underlying37 rfl TP_size) rfl ⟨s0,A0,n0,c0,t0,B0,m0,d0,s1,A1,n1,c1,t1,B1,m1,d1,rfl,PF.apart H0.out (kp8 W (w.heap.size+1) _ _ _ _ _ _ _ _) aA.out,PF.apart H1.out (kp8 W (w.heap.size+1) _ _ _ _ _ _ _ _) aA.out,below8 HK.out (by omega) _ _ _ _ _ _ _ _⟩
theorem fractions_any (p q u v:Int) (s0:Bool) (A0:Option Addr) (n0 c0:Nat) (t0:Bool) (B0:Option Addr) (m0 d0:Nat) (s1:Bool) (A1:Option Addr) (n1 c1:Nat) (t1:Bool) (B1:Option Addr) (m1 d1:Nat) (w:World) (hx:PF w s0 A0 n0 c0 t0 B0 m0 d0 p q) (hy:PF w s1 A1 n1 c1 t1 B1 m1 d1 u v) :
  Calls Tryz.prog 64 #[.agg #[.bool s0,.slice A0 n0 c0,.bool t0,.slice B0 m0 d0,.bool s1,.slice A1 n1 c1,.bool t1,.slice B1 m1 d1]] w (RetTw p q u v w):=by
 obtain ⟨W,hW⟩:∃ W,(w.alloc (.cells #[.bool s0,.slice A0 n0 c0,.bool t0,.slice B0 m0 d0,.bool s1,.slice A1 n1 c1,.bool t1,.slice B1 m1 d1] 37)).alloc (.cells #[.bool false,.slice none 0 0,.bool false,.slice none 0 0,.bool false,.slice none 0 0,.bool false,.slice none 0 0] 101)=W:=⟨_,rfl⟩
 have HK:=hJ (show Below w.heap.size w W by rw [←hW]; exact ((Below.refl _ w).alloc (Nat.le_refl _) _).alloc (by simp) _)
 have HA:=hJ (show P8 37 W w.heap.size (.bool s0) (.slice A0 n0 c0) (.bool t0) (.slice B0 m0 d0) (.bool s1) (.slice A1 n1 c1) (.bool t1) (.slice B1 m1 d1) by rw [←hW]; exact (P8.lit w _ _ _ _ _ _ _ _ _).new ((Below.refl _ _).alloc (Nat.le_refl _) _))
 have HZ:=hJ (show P8 101 W (w.heap.size+1) (.bool false) (.slice none 0 0) (.bool false) (.slice none 0 0) (.bool false) (.slice none 0 0) (.bool false) (.slice none 0 0) by
  rw [←hW]
  have h0:=P8.lit (w.alloc (.cells #[.bool s0,.slice A0 n0 c0,.bool t0,.slice B0 m0 d0,.bool s1,.slice A1 n1 c1,.bool t1,.slice B1 m1 d1] 37)) 101 (.bool false) (.slice none 0 0) (.bool false) (.slice none 0 0) (.bool false) (.slice none 0 0) (.bool false) (.slice none 0 0)
  rw [World.size_alloc] at h0
  exact h0)
 have H0:=hJ (hx.new HK.out)
 have H1:=hJ (hy.new HK.out)
 clear hx hy
 obtain ⟨⟨p0,p1,p2,p3⟩,p4,p5,p6,p7⟩:=HA.out.cells
 obtain ⟨⟨z0,z1,z2,z3⟩,z4,z5,z6,z7⟩:=HZ.out.cells
 have f0:=HZ.out.frozen 0
 have f1:=HZ.out.frozen 1
 have f2:=HZ.out.frozen 2
 have f3:=HZ.out.frozen 3
 have f4:=HZ.out.frozen 4
 have f5:=HZ.out.frozen 5
 have f6:=HZ.out.frozen 6
 have f7:=HZ.out.frozen 7
 have aA:=hJ (show NoW W (w.heap.size+1) from noW_of HZ.out rfl)
 go_enter Tryz.func64,Tryz.ntmps64
 go_wp2
 exact bodyPost_ret (results_cell_row rfl _ _ _ _ _ _ _ rfl (HZ.out.all (.bool s0) (.slice A0 n0 c0) (.bool t0) (.slice B0 m0 d0) (.bool s1) (.slice A1 n1 c1) (.bool t1) (.slice B1 m1 d1)) Tryz.underlying101 rfl T8_size) rfl ⟨s0,A0,n0,c0,t0,B0,m0,d0,s1,A1,n1,c1,t1,B1,m1,d1,rfl,PF.apart H0.out (kp8 W (w.heap.size+1) _ _ _ _ _ _ _ _) aA.out,PF.apart H1.out (kp8 W (w.heap.size+1) _ _ _ _ _ _ _ _) aA.out,below8 HK.out (by omega) _ _ _ _ _ _ _ _⟩
theorem pof_any (x y:Int) (w:World) (hx:(Lit.int .i64 x).wf=true) (hy:(Lit.int .i64 y).wf=true) :
  Calls Tryz.prog 21 #[.agg #[.int .i64 x,.int .i64 y]] w (RetTw x 1 y 1 w):=by
 have HX:=hJ (And.intro hx hy)
 clear hx hy
 obtain ⟨W,hW⟩:∃ W,(w.alloc (.cells #[.int .i64 x,.int .i64 y] 23)).alloc (.cells #[.bool false,.slice none 0 0,.bool false,.slice none 0 0,.bool false,.slice none 0 0,.bool false,.slice none 0 0] 37)=W:=⟨_,rfl⟩
 have HK:=hJ (show Below w.heap.size w W by rw [←hW]; exact ((Below.refl _ w).alloc (Nat.le_refl _) _).alloc (by simp) _)
 have HA:=hJ (show P2 23 W w.heap.size (.int .i64 x) (.int .i64 y) by rw [←hW]; exact (P2.lit w _ _ _).alloc _)
 have HZ:=hJ (show P8 37 W (w.heap.size+1) (.bool false) (.slice none 0 0) (.bool false) (.slice none 0 0) (.bool false) (.slice none 0 0) (.bool false) (.slice none 0 0) by
  rw [←hW]
  have h0:=P8.lit (w.alloc (.cells #[.int .i64 x,.int .i64 y] 23)) 37 (.bool false) (.slice none 0 0) (.bool false) (.slice none 0 0) (.bool false) (.slice none 0 0) (.bool false) (.slice none 0 0)
  rw [World.size_alloc] at h0
  exact h0)
 obtain ⟨h,hh⟩:∃ h,w.heap.size=h:=⟨_,rfl⟩
 have HH:=hJ hh
 rw [hh] at HA HZ
 obtain ⟨a0,a1⟩:=HA.out.cells
 go_enter Tryz.func21,Tryz.ntmps21
 go_wp2_with fail
 clear hW hh
 refine (integers_any x y W).mono ?_
 rintro e w1 ⟨rfl,hb1⟩
 have aI:=hJ (bt HK.out hb1)
 have aJ:=hJ (HZ.out.new hb1)
 clear hb1 a0 a1
 go_wp2_with fail
 refine (eachof_any x y w1 HX.out.1 HX.out.2).mono ?_
 rintro e w2 ⟨s0,A0,n0,c0,t0,B0,m0,d0,s1,A1,n1,c1,t1,B1,m1,d1,rfl,h0,h1,hb2⟩
 have aB:=hJ h0
 have aC:=hJ h1
 have aK:=hJ (bt aI.out hb2)
 have aL:=hJ (aJ.out.new hb2)
 clear h0 h1 hb2
 go_wp2_with fail
 refine (rational_any x 1 y 1 s0 A0 n0 c0 t0 B0 m0 d0 s1 A1 n1 c1 t1 B1 m1 d1 0 w2 aB.out aC.out).mono ?_
 clear aB aC
 rintro e w3 ⟨s2,A2,n2,c2,t2,B2,m2,d2,s3,A3,n3,c3,t3,B3,m3,d3,rfl,h0,h1,hb3⟩
 obtain ⟨x3,aG⟩:=nmz (w3.alloc (.cells #[.bool s2,.slice A2 n2 c2,.bool t2,.slice B2 m2 d2,.bool s3,.slice A3 n3 c3,.bool t3,.slice B3 m3 d3] 37))
 have aD:=hJ (show Below w3.heap.size w3 x3 by rw [←aG]; exact (Below.refl _ _).alloc (Nat.le_refl _) _)
 have aM:=hJ (show P8 37 x3 w3.heap.size (.bool s2) (.slice A2 n2 c2) (.bool t2) (.slice B2 m2 d2) (.bool s3) (.slice A3 n3 c3) (.bool t3) (.slice B3 m3 d3) by rw [←aG]; exact P8.lit _ _ _ _ _ _ _ _ _ _)
 have aB:=hJ (h0.new aD.out)
 have aC:=hJ (h1.new aD.out)
 have aO:=hJ (bt aK.out (bt hb3 aD.out))
 have aA:=hJ ((aL.out.new hb3).new aD.out)
 clear h0 h1 hb3
 obtain ⟨⟨p0,p1,p2,p3⟩,p4,p5,p6,p7⟩:=aM.out.cells
 obtain ⟨⟨z0,z1,z2,z3⟩,z4,z5,z6,z7⟩:=aA.out.cells
 have f0:=aA.out.frozen 0
 have f1:=aA.out.frozen 1
 have f2:=aA.out.frozen 2
 have f3:=aA.out.frozen 3
 have f4:=aA.out.frozen 4
 have f5:=aA.out.frozen 5
 have f6:=aA.out.frozen 6
 have f7:=aA.out.frozen 7
 have aH:=hJ (show NoW x3 (h+1) from noW_of aA.out rfl)
 go_wp2
 exact bodyPost_ret (results_cell_row rfl _ _ _ _ _ _ _ rfl (aA.out.all (.bool s2) (.slice A2 n2 c2) (.bool t2) (.slice B2 m2 d2) (.bool s3) (.slice A3 n3 c3) (.bool t3) (.slice B3 m3 d3)) Tryz.underlying37 rfl TP_size) rfl ⟨s2,A2,n2,c2,t2,B2,m2,d2,s3,A3,n3,c3,t3,B3,m3,d3,rfl,PF.apart aB.out (kp8 x3 (h+1) _ _ _ _ _ _ _ _) aH.out,PF.apart aC.out (kp8 x3 (h+1) _ _ _ _ _ _ _ _) aH.out,below8 aO.out (by rw [HH.out]; omega) _ _ _ _ _ _ _ _⟩
/-- The order of two points. -/
def pcV (p q u v p' q' u' v':Int):Int:=if cmpI (p*q') (p'*q)=0 then cmpI (u*v') (u'*v) else cmpI (p*q') (p'*q)
theorem porder_any (p q u v p' q' u' v':Int) (s0:Bool) (A0:Option Addr) (n0 c0:Nat) (t0:Bool) (B0:Option Addr) (m0 d0:Nat) (s1:Bool) (A1:Option Addr) (n1 c1:Nat) (t1:Bool) (B1:Option Addr) (m1 d1:Nat) (s2:Bool) (A2:Option Addr) (n2 c2:Nat) (t2:Bool) (B2:Option Addr) (m2 d2:Nat) (s3:Bool) (A3:Option Addr) (n3 c3:Nat) (t3:Bool) (B3:Option Addr) (m3 d3:Nat) (w:World) (h0:PF w s0 A0 n0 c0 t0 B0 m0 d0 p q) (h1:PF w s1 A1 n1 c1 t1 B1 m1 d1 u v) (h2:PF w s2 A2 n2 c2 t2 B2 m2 d2 p' q') (h3:PF w s3 A3 n3 c3 t3 B3 m3 d3 u' v') (hl:(0 < q∧p.natAbs < lim∧q.natAbs < lim)∧(0 < v∧u.natAbs < lim∧v.natAbs < lim)∧(0 < q'∧p'.natAbs < lim∧q'.natAbs < lim)∧(0 < v'∧u'.natAbs < lim∧v'.natAbs < lim)) :
  Calls Tryz.prog 63 #[.agg #[.bool s0,.slice A0 n0 c0,.bool t0,.slice B0 m0 d0,.bool s1,.slice A1 n1 c1,.bool t1,.slice B1 m1 d1],.agg #[.bool s2,.slice A2 n2 c2,.bool t2,.slice B2 m2 d2,.bool s3,.slice A3 n3 c3,.bool t3,.slice B3 m3 d3],.func (.func 65) #[] #[]] w fun e w'=>e=.returned (.int .i64 (pcV p q u v p' q' u' v'))∧Below w.heap.size w w':=by
 obtain ⟨C,hC⟩:∃ c,pcV p q u v p' q' u' v'=c:=⟨_,rfl⟩
 have HC:=hJ hC
 rw [hC]
 clear hC
 have HL:=hJ hl
 clear hl
 obtain ⟨W,hW⟩:∃ W,(w.alloc (.cells #[.bool s0,.slice A0 n0 c0,.bool t0,.slice B0 m0 d0,.bool s1,.slice A1 n1 c1,.bool t1,.slice B1 m1 d1] 101)).alloc (.cells #[.bool s2,.slice A2 n2 c2,.bool t2,.slice B2 m2 d2,.bool s3,.slice A3 n3 c3,.bool t3,.slice B3 m3 d3] 101)=W:=⟨_,rfl⟩
 have HK:=hJ (show Below w.heap.size w W by rw [←hW]; exact ((Below.refl _ w).alloc (Nat.le_refl _) _).alloc (by simp) _)
 have HA:=hJ (show P8 101 W w.heap.size (.bool s0) (.slice A0 n0 c0) (.bool t0) (.slice B0 m0 d0) (.bool s1) (.slice A1 n1 c1) (.bool t1) (.slice B1 m1 d1) by rw [←hW]; exact (P8.lit w _ _ _ _ _ _ _ _ _).new ((Below.refl _ _).alloc (Nat.le_refl _) _))
 have HB:=hJ (show P8 101 W (w.heap.size+1) (.bool s2) (.slice A2 n2 c2) (.bool t2) (.slice B2 m2 d2) (.bool s3) (.slice A3 n3 c3) (.bool t3) (.slice B3 m3 d3) by
  rw [←hW]
  have h0:=P8.lit (w.alloc (.cells #[.bool s0,.slice A0 n0 c0,.bool t0,.slice B0 m0 d0,.bool s1,.slice A1 n1 c1,.bool t1,.slice B1 m1 d1] 101)) 101 (.bool s2) (.slice A2 n2 c2) (.bool t2) (.slice B2 m2 d2) (.bool s3) (.slice A3 n3 c3) (.bool t3) (.slice B3 m3 d3)
  rw [World.size_alloc] at h0
  exact h0)
 have H0:=hJ (h0.new HK.out)
 have H1:=hJ (h1.new HK.out)
 have H2:=hJ (h2.new HK.out)
 have H3:=hJ (h3.new HK.out)
 clear h0 h1 h2 h3
 obtain ⟨h,hh⟩:∃ h,w.heap.size=h:=⟨_,rfl⟩
 rw [hh] at HA HB
 go_enter Tryz.func63,Tryz.ntmps63
 go_wp2_with fail
 clear hW hh
 go_loopw [9] (fun tv wr=>∃ i:Nat,i≤2∧tv=.int .i64 (i:Int)∧P8 101 wr h (.bool s0) (.slice A0 n0 c0) (.bool t0) (.slice B0 m0 d0) (.bool s1) (.slice A1 n1 c1) (.bool t1) (.slice B1 m1 d1)∧P8 101 wr (h+1) (.bool s2) (.slice A2 n2 c2) (.bool t2) (.slice B2 m2 d2) (.bool s3) (.slice A3 n3 c3) (.bool t3) (.slice B3 m3 d3)∧PF wr s0 A0 n0 c0 t0 B0 m0 d0 p q∧PF wr s1 A1 n1 c1 t1 B1 m1 d1 u v∧PF wr s2 A2 n2 c2 t2 B2 m2 d2 p' q'∧PF wr s3 A3 n3 c3 t3 B3 m3 d3 u' v'∧Hid ((0 < i→cmpI (p*q') (p'*q)=0)∧(1 < i→cmpI (u*v') (u'*v)=0))∧Below w.heap.size w wr) (fun tv _=>2 - (intOf tv).toNat)
 case atStart=>exact ⟨0,by omega,rfl,HA.out,HB.out,H0.out,H1.out,H2.out,H3.out,hJ ⟨fun h=>by omega,fun h=>by omega⟩,HK.out⟩
 case round =>
  clear HA HB HK H0 H1 H2 H3
  obtain ⟨i,hi,rfl,ha,hb,h0,h1,h2,h3,hle,hbel⟩:=hrel
  have HA:=hJ ha
  have HB:=hJ hb
  have H0:=hJ h0
  have H1:=hJ h1
  have H2:=hJ h2
  have H3:=hJ h3
  have aH:=hJ hbel
  clear ha hb h0 h1 h2 h3 hbel
  have hi3:i=0∨i=1∨i=2:=by omega
  rcases hi3 with rfl | rfl | rfl
  ·have HS:Hid (∀ w',Below wr.heap.size wr w'→(fun w':World=>w'.cell? ⟨h,0,none⟩=some (.bool s0)∧w'.cell? ⟨h,1,none⟩=some (.slice A0 n0 c0)∧w'.cell? ⟨h,2,none⟩=some (.bool t0)∧w'.cell? ⟨h,3,none⟩=some (.slice B0 m0 d0)∧w'.cell? ⟨(h+1),0,none⟩=some (.bool s2)∧w'.cell? ⟨(h+1),1,none⟩=some (.slice A2 n2 c2)∧w'.cell? ⟨(h+1),2,none⟩=some (.bool t2)∧w'.cell? ⟨(h+1),3,none⟩=some (.slice B2 m2 d2)∧Below wr.heap.size wr w') w'):=hJ (fun w' hb=>⟨(HA.out.new hb).cells.1.1,(HA.out.new hb).cells.1.2.1,(HA.out.new hb).cells.1.2.2.1,(HA.out.new hb).cells.1.2.2.2,(HB.out.new hb).cells.1.1,(HB.out.new hb).cells.1.2.1,(HB.out.new hb).cells.1.2.2.1,(HB.out.new hb).cells.1.2.2.2,hb⟩)
   have aJ:=hJ (Below.refl wr.heap.size wr)
   obtain ⟨k,hk0⟩:∃ k,cmpI (p*q') (p'*q)=k:=⟨_,rfl⟩
   have aD:=hJ hk0
   clear hk0
   go_wp2_with fail
   obtain ⟨v0,hv0⟩:=nmz (World.drew wr)
   have aB:=hJ (show Below wr.heap.size wr v0 by rw [←hv0]; exact (Below.refl _ _).drew)
   have aG:=hJ (bt aJ.out aB.out)
   have X_0:=hJ ((H0.out).new aB.out)
   have Y_0:=hJ ((H2.out).new aB.out)
   refine wp_region_held_drew (S:=(fun w':World=>w'.cell? ⟨h,0,none⟩=some (.bool s0)∧w'.cell? ⟨h,1,none⟩=some (.slice A0 n0 c0)∧w'.cell? ⟨h,2,none⟩=some (.bool t0)∧w'.cell? ⟨h,3,none⟩=some (.slice B0 m0 d0)∧w'.cell? ⟨(h+1),0,none⟩=some (.bool s2)∧w'.cell? ⟨(h+1),1,none⟩=some (.slice A2 n2 c2)∧w'.cell? ⟨(h+1),2,none⟩=some (.bool t2)∧w'.cell? ⟨(h+1),3,none⟩=some (.slice B2 m2 d2)∧Below wr.heap.size wr w')) (by kernel_rfl) ?_ (fun hHeld=>?_)
   ·rw [hv0]
    exact HS.out _ aG.out
   rw [hv0] at hHeld ⊢
   clear hv0 aB
   refine tq 0 ?_
   refine tq 1 ?_
   refine tq 2 ?_
   refine tq 3 ?_
   refine tq 4 ?_
   refine tq 5 ?_
   refine tq 6 ?_
   try simp only [PT]
   refine ryy [7] ?_
   refine .cons rfl (fun K hK=>?_) .nil
   go_simp
   go_at_call 65
   refine (fcompare_any p q p' q' s0 t0 s2 t2 A0 B0 A2 B2 n0 c0 m0 d0 n2 c2 m2 d2 v0 (X_0.out) (Y_0.out) HL.out.1.1 HL.out.2.2.1.1 HL.out.1.2.1 HL.out.1.2.2 HL.out.2.2.1.2.1 HL.out.2.2.1.2.2).mono ?_
   rw [aD.out]
   rintro e v1 ⟨rfl,hk⟩
   have aC:=hJ hk
   go_wp2_with fail
   have aI:=hJ (bt aG.out aC.out)
   have X_1:=hJ ((X_0.out).new aC.out)
   have Y_1:=hJ ((Y_0.out).new aC.out)
   clear hHeld
   refine hK.out _ _ (HS.out _ aI.out) (fun hHeld=>?_)
   clear hK K hk aC aG X_0 Y_0
   refine tq 8 ?_
   try simp only [PT]
   refine wpAnyH_done (by kernel_rfl) ?_ _
   clear hHeld
   have aA:=hJ aI.out
   by_cases hk:k=0
   ·subst hk
    go_wp2
    go_roundw
    case rel=>exact ⟨1,by omega,by go_num,HA.out.new aA.out,HB.out.new aA.out,H0.out.new aA.out,H1.out.new aA.out,H2.out.new aA.out,H3.out.new aA.out,hJ ⟨fun _=>aD.out,fun _=>by omega⟩,bt aH.out aA.out⟩
    case measure=>simp [intOf]
   have HE:=hJ (show k=C by rw [←HC.out]; unfold pcV; rw [if_neg (by rw [aD.out]; exact hk),aD.out])
   have hkb:(k == 0)=false:=by simp [hk]
   clear hk
   go_wp2
   go_ret
   exact ⟨by rw [←HE.out]; rfl,bt aH.out aA.out⟩
  ·have HS:Hid (∀ w',Below wr.heap.size wr w'→(fun w':World=>w'.cell? ⟨h,4,none⟩=some (.bool s1)∧w'.cell? ⟨h,5,none⟩=some (.slice A1 n1 c1)∧w'.cell? ⟨h,6,none⟩=some (.bool t1)∧w'.cell? ⟨h,7,none⟩=some (.slice B1 m1 d1)∧w'.cell? ⟨(h+1),4,none⟩=some (.bool s3)∧w'.cell? ⟨(h+1),5,none⟩=some (.slice A3 n3 c3)∧w'.cell? ⟨(h+1),6,none⟩=some (.bool t3)∧w'.cell? ⟨(h+1),7,none⟩=some (.slice B3 m3 d3)∧Below wr.heap.size wr w') w'):=hJ (fun w' hb=>⟨(HA.out.new hb).cells.2.1,(HA.out.new hb).cells.2.2.1,(HA.out.new hb).cells.2.2.2.1,(HA.out.new hb).cells.2.2.2.2,(HB.out.new hb).cells.2.1,(HB.out.new hb).cells.2.2.1,(HB.out.new hb).cells.2.2.2.1,(HB.out.new hb).cells.2.2.2.2,hb⟩)
   have aJ:=hJ (Below.refl wr.heap.size wr)
   obtain ⟨k,hk0⟩:∃ k,cmpI (u*v') (u'*v)=k:=⟨_,rfl⟩
   have aD:=hJ hk0
   clear hk0
   go_wp2_with fail
   obtain ⟨v0,hv0⟩:=nmz (World.drew wr)
   have aB:=hJ (show Below wr.heap.size wr v0 by rw [←hv0]; exact (Below.refl _ _).drew)
   have aG:=hJ (bt aJ.out aB.out)
   have X_0:=hJ ((H1.out).new aB.out)
   have Y_0:=hJ ((H3.out).new aB.out)
   refine wp_region_held_drew (S:=(fun w':World=>w'.cell? ⟨h,4,none⟩=some (.bool s1)∧w'.cell? ⟨h,5,none⟩=some (.slice A1 n1 c1)∧w'.cell? ⟨h,6,none⟩=some (.bool t1)∧w'.cell? ⟨h,7,none⟩=some (.slice B1 m1 d1)∧w'.cell? ⟨(h+1),4,none⟩=some (.bool s3)∧w'.cell? ⟨(h+1),5,none⟩=some (.slice A3 n3 c3)∧w'.cell? ⟨(h+1),6,none⟩=some (.bool t3)∧w'.cell? ⟨(h+1),7,none⟩=some (.slice B3 m3 d3)∧Below wr.heap.size wr w')) (by kernel_rfl) ?_ (fun hHeld=>?_)
   ·rw [hv0]
    exact HS.out _ aG.out
   rw [hv0] at hHeld ⊢
   clear hv0 aB
   refine tq 0 ?_
   refine tq 1 ?_
   refine tq 2 ?_
   refine tq 3 ?_
   refine tq 4 ?_
   refine tq 5 ?_
   refine tq 6 ?_
   try simp only [PT]
   refine ryy [7] ?_
   refine .cons rfl (fun K hK=>?_) .nil
   go_simp
   go_at_call 65
   refine (fcompare_any u v u' v' s1 t1 s3 t3 A1 B1 A3 B3 n1 c1 m1 d1 n3 c3 m3 d3 v0 (X_0.out) (Y_0.out) HL.out.2.1.1 HL.out.2.2.2.1 HL.out.2.1.2.1 HL.out.2.1.2.2 HL.out.2.2.2.2.1 HL.out.2.2.2.2.2).mono ?_
   rw [aD.out]
   rintro e v1 ⟨rfl,hk⟩
   have aC:=hJ hk
   go_wp2_with fail
   have aI:=hJ (bt aG.out aC.out)
   have X_1:=hJ ((X_0.out).new aC.out)
   have Y_1:=hJ ((Y_0.out).new aC.out)
   clear hHeld
   refine hK.out _ _ (HS.out _ aI.out) (fun hHeld=>?_)
   clear hK K hk aC aG X_0 Y_0
   refine tq 8 ?_
   try simp only [PT]
   refine wpAnyH_done (by kernel_rfl) ?_ _
   clear hHeld
   have aA:=hJ aI.out
   by_cases hk:k=0
   ·subst hk
    go_wp2
    go_roundw
    case rel=>exact ⟨2,by omega,by go_num,HA.out.new aA.out,HB.out.new aA.out,H0.out.new aA.out,H1.out.new aA.out,H2.out.new aA.out,H3.out.new aA.out,hJ ⟨fun _=>hle.out.1 (by omega),fun _=>aD.out⟩,bt aH.out aA.out⟩
    case measure=>simp [intOf]
   have HE:=hJ (show k=C by rw [←HC.out]; unfold pcV; rw [if_pos (hle.out.1 (by omega)),aD.out])
   have hkb:(k == 0)=false:=by simp [hk]
   clear hk
   go_wp2
   go_ret
   exact ⟨by rw [←HE.out]; rfl,bt aH.out aA.out⟩
  ·have HE:=hJ (show (0:Int)=C by rw [←HC.out]; unfold pcV; rw [if_pos (hle.out.1 (by omega)),hle.out.2 (by omega)])
   go_wp2
   go_ret
   exact ⟨by rw [←HE.out]; rfl,aH.out⟩
theorem ptcompare_any (p q u v p' q' u' v':Int) (s0:Bool) (A0:Option Addr) (n0 c0:Nat) (t0:Bool) (B0:Option Addr) (m0 d0:Nat) (s1:Bool) (A1:Option Addr) (n1 c1:Nat) (t1:Bool) (B1:Option Addr) (m1 d1:Nat) (s2:Bool) (A2:Option Addr) (n2 c2:Nat) (t2:Bool) (B2:Option Addr) (m2 d2:Nat) (s3:Bool) (A3:Option Addr) (n3 c3:Nat) (t3:Bool) (B3:Option Addr) (m3 d3:Nat) (w:World) (h0:PF w s0 A0 n0 c0 t0 B0 m0 d0 p q) (h1:PF w s1 A1 n1 c1 t1 B1 m1 d1 u v) (h2:PF w s2 A2 n2 c2 t2 B2 m2 d2 p' q') (h3:PF w s3 A3 n3 c3 t3 B3 m3 d3 u' v') (hl:(0 < q∧p.natAbs < lim∧q.natAbs < lim)∧(0 < v∧u.natAbs < lim∧v.natAbs < lim)∧(0 < q'∧p'.natAbs < lim∧q'.natAbs < lim)∧(0 < v'∧u'.natAbs < lim∧v'.natAbs < lim)) :
  Calls Tryz.prog 34 #[.agg #[.bool s0,.slice A0 n0 c0,.bool t0,.slice B0 m0 d0,.bool s1,.slice A1 n1 c1,.bool t1,.slice B1 m1 d1],.agg #[.bool s2,.slice A2 n2 c2,.bool t2,.slice B2 m2 d2,.bool s3,.slice A3 n3 c3,.bool t3,.slice B3 m3 d3]] w fun e w'=>e=.returned (.int .i64 (pcV p q u v p' q' u' v'))∧Below w.heap.size w w':=by
 have HL:=hJ hl
 clear hl
 obtain ⟨W,hW⟩:∃ W,(w.alloc (.cells #[.bool s0,.slice A0 n0 c0,.bool t0,.slice B0 m0 d0,.bool s1,.slice A1 n1 c1,.bool t1,.slice B1 m1 d1] 37)).alloc (.cells #[.bool s2,.slice A2 n2 c2,.bool t2,.slice B2 m2 d2,.bool s3,.slice A3 n3 c3,.bool t3,.slice B3 m3 d3] 37)=W:=⟨_,rfl⟩
 have HK:=hJ (show Below w.heap.size w W by rw [←hW]; exact ((Below.refl _ w).alloc (Nat.le_refl _) _).alloc (by simp) _)
 have HA:=hJ (show P8 37 W w.heap.size (.bool s0) (.slice A0 n0 c0) (.bool t0) (.slice B0 m0 d0) (.bool s1) (.slice A1 n1 c1) (.bool t1) (.slice B1 m1 d1) by rw [←hW]; exact (P8.lit w _ _ _ _ _ _ _ _ _).new ((Below.refl _ _).alloc (Nat.le_refl _) _))
 have HB:=hJ (show P8 37 W (w.heap.size+1) (.bool s2) (.slice A2 n2 c2) (.bool t2) (.slice B2 m2 d2) (.bool s3) (.slice A3 n3 c3) (.bool t3) (.slice B3 m3 d3) by
  rw [←hW]
  have h0:=P8.lit (w.alloc (.cells #[.bool s0,.slice A0 n0 c0,.bool t0,.slice B0 m0 d0,.bool s1,.slice A1 n1 c1,.bool t1,.slice B1 m1 d1] 37)) 37 (.bool s2) (.slice A2 n2 c2) (.bool t2) (.slice B2 m2 d2) (.bool s3) (.slice A3 n3 c3) (.bool t3) (.slice B3 m3 d3)
  rw [World.size_alloc] at h0
  exact h0)
 have H0:=hJ (h0.new HK.out)
 have H1:=hJ (h1.new HK.out)
 have H2:=hJ (h2.new HK.out)
 have H3:=hJ (h3.new HK.out)
 clear h0 h1 h2 h3
 obtain ⟨h,hh⟩:∃ h,w.heap.size=h:=⟨_,rfl⟩
 rw [hh] at HA HB
 go_enter Tryz.func34,Tryz.ntmps34
 go_wp2_with fail
 clear hW hh
 have HS:Hid (∀ w',Below W.heap.size W w'→(fun w':World=>w'.cell? ⟨h,0,none⟩=some (.bool s0)∧w'.cell? ⟨h,1,none⟩=some (.slice A0 n0 c0)∧w'.cell? ⟨h,2,none⟩=some (.bool t0)∧w'.cell? ⟨h,3,none⟩=some (.slice B0 m0 d0)∧w'.cell? ⟨h,4,none⟩=some (.bool s1)∧w'.cell? ⟨h,5,none⟩=some (.slice A1 n1 c1)∧w'.cell? ⟨h,6,none⟩=some (.bool t1)∧w'.cell? ⟨h,7,none⟩=some (.slice B1 m1 d1)∧w'.cell? ⟨(h+1),0,none⟩=some (.bool s2)∧w'.cell? ⟨(h+1),1,none⟩=some (.slice A2 n2 c2)∧w'.cell? ⟨(h+1),2,none⟩=some (.bool t2)∧w'.cell? ⟨(h+1),3,none⟩=some (.slice B2 m2 d2)∧w'.cell? ⟨(h+1),4,none⟩=some (.bool s3)∧w'.cell? ⟨(h+1),5,none⟩=some (.slice A3 n3 c3)∧w'.cell? ⟨(h+1),6,none⟩=some (.bool t3)∧w'.cell? ⟨(h+1),7,none⟩=some (.slice B3 m3 d3)∧Below W.heap.size W w') w'):=hJ (fun w' hb=>⟨(HA.out.new hb).cells.1.1,(HA.out.new hb).cells.1.2.1,(HA.out.new hb).cells.1.2.2.1,(HA.out.new hb).cells.1.2.2.2,(HA.out.new hb).cells.2.1,(HA.out.new hb).cells.2.2.1,(HA.out.new hb).cells.2.2.2.1,(HA.out.new hb).cells.2.2.2.2,(HB.out.new hb).cells.1.1,(HB.out.new hb).cells.1.2.1,(HB.out.new hb).cells.1.2.2.1,(HB.out.new hb).cells.1.2.2.2,(HB.out.new hb).cells.2.1,(HB.out.new hb).cells.2.2.1,(HB.out.new hb).cells.2.2.2.1,(HB.out.new hb).cells.2.2.2.2,hb⟩)
 have aK:=hJ (Below.refl W.heap.size W)
 obtain ⟨v0,hv0⟩:=nmz (World.drew W)
 have aC:=hJ (show Below W.heap.size W v0 by rw [←hv0]; exact (Below.refl _ _).drew)
 have aG:=hJ (bt aK.out aC.out)
 have F0_0:=hJ ((H0.out).new aC.out)
 have F1_0:=hJ ((H1.out).new aC.out)
 have F2_0:=hJ ((H2.out).new aC.out)
 have F3_0:=hJ ((H3.out).new aC.out)
 refine wp_region_held_drew (S:=(fun w':World=>w'.cell? ⟨h,0,none⟩=some (.bool s0)∧w'.cell? ⟨h,1,none⟩=some (.slice A0 n0 c0)∧w'.cell? ⟨h,2,none⟩=some (.bool t0)∧w'.cell? ⟨h,3,none⟩=some (.slice B0 m0 d0)∧w'.cell? ⟨h,4,none⟩=some (.bool s1)∧w'.cell? ⟨h,5,none⟩=some (.slice A1 n1 c1)∧w'.cell? ⟨h,6,none⟩=some (.bool t1)∧w'.cell? ⟨h,7,none⟩=some (.slice B1 m1 d1)∧w'.cell? ⟨(h+1),0,none⟩=some (.bool s2)∧w'.cell? ⟨(h+1),1,none⟩=some (.slice A2 n2 c2)∧w'.cell? ⟨(h+1),2,none⟩=some (.bool t2)∧w'.cell? ⟨(h+1),3,none⟩=some (.slice B2 m2 d2)∧w'.cell? ⟨(h+1),4,none⟩=some (.bool s3)∧w'.cell? ⟨(h+1),5,none⟩=some (.slice A3 n3 c3)∧w'.cell? ⟨(h+1),6,none⟩=some (.bool t3)∧w'.cell? ⟨(h+1),7,none⟩=some (.slice B3 m3 d3)∧Below W.heap.size W w')) (by kernel_rfl) ?_ (fun hHeld=>?_)
 ·rw [hv0]
  exact HS.out _ aG.out
 rw [hv0] at hHeld ⊢
 clear hv0 aC
 refine tq 0 ?_
 refine tq 2 ?_
 try simp only [PT]
 refine ryy [1] ?_
 refine .cons rfl (fun K hK=>?_) .nil
 go_simp
 go_at_call_of 64 (Value.agg #[.bool s0,.slice A0 n0 c0,.bool t0,.slice B0 m0 d0,.bool s1,.slice A1 n1 c1,.bool t1,.slice B1 m1 d1])
 refine (fractions_any p q u v s0 A0 n0 c0 t0 B0 m0 d0 s1 A1 n1 c1 t1 B1 m1 d1 v0 (F0_0.out) (F1_0.out)).mono ?_
 rintro e v1 ⟨s4,A4,n4,c4,t4,B4,m4,d4,s5,A5,n5,c5,t5,B5,m5,d5,rfl,hr1,hr2,hk⟩
 have F4_1:=hJ (hr1)
 have F5_1:=hJ (hr2)
 have aD:=hJ hk
 go_wp2_with fail
 have aH:=hJ (bt aG.out aD.out)
 have F0_1:=hJ ((F0_0.out).new aD.out)
 have F1_1:=hJ ((F1_0.out).new aD.out)
 have F2_1:=hJ ((F2_0.out).new aD.out)
 have F3_1:=hJ ((F3_0.out).new aD.out)
 clear hHeld
 refine hK.out _ _ (HS.out _ aH.out) (fun hHeld=>?_)
 clear hK K hk aD hr1 hr2 aG F0_0 F1_0 F2_0 F3_0
 try simp only [PT]
 refine ryy [3] ?_
 refine .cons rfl (fun K hK=>?_) .nil
 go_simp
 go_at_call_of 64 (Value.agg #[.bool s2,.slice A2 n2 c2,.bool t2,.slice B2 m2 d2,.bool s3,.slice A3 n3 c3,.bool t3,.slice B3 m3 d3])
 refine (fractions_any p' q' u' v' s2 A2 n2 c2 t2 B2 m2 d2 s3 A3 n3 c3 t3 B3 m3 d3 v1 (F2_1.out) (F3_1.out)).mono ?_
 rintro e v2 ⟨s6,A6,n6,c6,t6,B6,m6,d6,s7,A7,n7,c7,t7,B7,m7,d7,rfl,hr1,hr2,hk⟩
 have F6_2:=hJ (hr1)
 have F7_2:=hJ (hr2)
 have aB:=hJ hk
 go_wp2_with fail
 have aI:=hJ (bt aH.out aB.out)
 have F0_2:=hJ ((F0_1.out).new aB.out)
 have F1_2:=hJ ((F1_1.out).new aB.out)
 have F2_2:=hJ ((F2_1.out).new aB.out)
 have F3_2:=hJ ((F3_1.out).new aB.out)
 have F4_2:=hJ ((F4_1.out).new aB.out)
 have F5_2:=hJ ((F5_1.out).new aB.out)
 clear hHeld
 refine hK.out _ _ (HS.out _ aI.out) (fun hHeld=>?_)
 clear hK K hk aB hr1 hr2 aH F0_1 F1_1 F2_1 F3_1 F4_1 F5_1
 try simp only [PT]
 refine ryy [4] ?_
 refine .cons rfl (fun K hK=>?_) .nil
 go_simp
 go_at_call 63
 refine (porder_any p q u v p' q' u' v' s4 A4 n4 c4 t4 B4 m4 d4 s5 A5 n5 c5 t5 B5 m5 d5 s6 A6 n6 c6 t6 B6 m6 d6 s7 A7 n7 c7 t7 B7 m7 d7 v2 (F4_2.out) (F5_2.out) (F6_2.out) (F7_2.out) HL.out).mono ?_
 rintro e v3 ⟨rfl,hk⟩
 have aA:=hJ hk
 go_wp2_with fail
 have aJ:=hJ (bt aI.out aA.out)
 have F0_3:=hJ ((F0_2.out).new aA.out)
 have F1_3:=hJ ((F1_2.out).new aA.out)
 have F2_3:=hJ ((F2_2.out).new aA.out)
 have F3_3:=hJ ((F3_2.out).new aA.out)
 have F4_3:=hJ ((F4_2.out).new aA.out)
 have F5_3:=hJ ((F5_2.out).new aA.out)
 have F6_3:=hJ ((F6_2.out).new aA.out)
 have F7_3:=hJ ((F7_2.out).new aA.out)
 clear hHeld
 refine hK.out _ _ (HS.out _ aJ.out) (fun hHeld=>?_)
 clear hK K hk aA aI F0_2 F1_2 F2_2 F3_2 F4_2 F5_2 F6_2 F7_2
 refine tq 5 ?_
 try simp only [PT]
 refine wpAnyH_done (by kernel_rfl) ?_ _
 clear hHeld
 have aL:=hJ (bt HK.out aJ.out)
 go_wp2
 go_ret
 exact ⟨rfl,aL.out⟩

end Go.Proofs.YtdgicnhadecldaaGreat
