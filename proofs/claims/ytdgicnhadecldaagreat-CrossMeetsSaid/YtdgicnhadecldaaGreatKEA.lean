/- The mathematics of directions, of sides and of circles. No walk. -/
import Derived.Test.YtdgicnhadecldaaGreatKQL
namespace Go.Proofs.YtdgicnhadecldaaGreat
set_option maxRecDepth 100000
set_option maxHeartbeats 12800000
open Go.RowKit
attribute [local go_sem ↓] Go.wp_at_zero Go.wp_at_succ
set_option linter.unusedVariables false
set_option linter.unusedSimpArgs false
/-- The first error of a list. -/
def fsE (f:Int × Int→Int):List (Int × Int)→Int
 | []=>0
 | p :: l=>if f p=0 then fsE f l else f p
theorem fs_drop {f:Int × Int→Int} {l:List (Int × Int)} {i:Nat} {p:Int × Int} (h:l[i]?=some p):fsE f (l.drop i)=if f p=0 then fsE f (l.drop (i+1)) else f p:=by
 obtain ⟨hi,rfl⟩:=List.getElem?_eq_some_iff.1 h
 rw [List.drop_eq_getElem_cons hi,fsE]
/-- On which side of the line from a to b a point lies. -/
def sdV (ax ay bx by' cx cy:Int):Int:=cmpI ((bx - ax)*(cy - ay)) ((by' - ay)*(cx - ax))
theorem cmpI_is (a b:Int):(a < b∧cmpI a b = -1)∨(a=b∧cmpI a b=0)∨(b < a∧cmpI a b=1):=by
 unfold cmpI
 split
 ·exact .inl ⟨by assumption,rfl⟩
 ·split
  ·exact .inr (.inr ⟨by assumption,rfl⟩)
  ·exact .inr (.inl ⟨by omega,rfl⟩)
/-- An int of 64 bits. -/
def I6 (x:Int):Prop := -9223372036854775808≤x∧x≤9223372036854775807
theorem i6_wrap {x:Int} (h:I6 x):IntKind.i64.wrap x=x:=IntWalk.i64_in _ h
/-- At most k from 0. -/
def Nk (k x:Int):Prop := -k≤x∧x≤k
theorem nk_mul {k l x y:Int} (h:Nk k x) (g:Nk l y):Nk (k*l) (x*y):=by
 have hk:0≤k:=by have:=h.1; have:=h.2; omega
 have hl:0≤l:=by have:=g.1; have:=g.2; omega
 have e:(x*y).natAbs≤(k*l).natAbs:=by
  rw [Int.natAbs_mul,Int.natAbs_mul]
  exact Nat.mul_le_mul (by have:=h.1; have:=h.2; omega) (by have:=g.1; have:=g.2; omega)
 have hkl:=Int.mul_nonneg hk hl
 unfold Nk
 omega
theorem nk_sub {k l x y:Int} (h:Nk k x) (g:Nk l y):Nk (k+l) (x - y):=by unfold Nk at *; omega
theorem nk_i6 {k x:Int} (h:Nk k x) (hk:k≤9223372036854775807):I6 x:=by unfold Nk at h; unfold I6; omega
theorem nk_prod {x y:Int} (h:Nk 2147483648 x) (g:Nk 2147483648 y):I6 (x*y):=nk_i6 (nk_mul h g) (by decide)
/-- Points as values, one behind the other. -/
def ptV:List (Int × Int)→List Value
 | []=>[]
 | p :: l=>.int .i64 p.1 :: .int .i64 p.2 :: ptV l
theorem ptV_get {l:List (Int × Int)} {i:Nat} {x y:Int} (h:l[i]?=some (x,y)):(ptV l).toArray[i*2]?=some (.int .i64 x)∧(ptV l).toArray[i*2+1]?=some (.int .i64 y):=by
 rw [List.getElem?_toArray,List.getElem?_toArray]
 induction l generalizing i with
 | nil=>simp at h
 | cons q l ih =>
  match i with
  | 0=>simp at h; subst h; exact ⟨rfl,rfl⟩
  | i+1 =>
   have:=ih (i:=i) (by simpa using h)
   rw [show (i+1)*2=i*2+1+1 by omega]
   exact this
theorem fs_zero {f:Int × Int→Int} {p:Int × Int} {l:List (Int × Int)} (h:f p=0):fsE f (p :: l)=fsE f l:=by rw [fsE,if_pos h]
theorem fs_two {f:Int × Int→Int} {p q:Int × Int} (h:fsE f [p,q]=0):f p=0∧f q=0:=by
 unfold fsE at h
 split at h
 ·unfold fsE at h
  split at h
  ·exact ⟨by assumption,by assumption⟩
  exact absurd h (by assumption)
 ·exact absurd h (by assumption)
theorem fs_cons {f:Int × Int→Int} {p:Int × Int} {l:List (Int × Int)} (h:fsE f (p :: l)=0):f p=0∧fsE f l=0:=by
 unfold fsE at h
 split at h
 ·exact ⟨by assumption,h⟩
 ·exact absurd h (by assumption)
/-- What gridSide reckons. -/
def G3 (ax ay bx by' cx cy:Int):Prop:=(I6 (bx - ax)∧I6 (by' - ay))∧(I6 (cx - ax)∧I6 (cy - ay))∧I6 ((bx - ax)*(cy - ay))∧I6 ((by' - ay)*(cx - ax))
def vdP (p:Int × Int):Int:=if (-1073741824≤p.1 ∧ -1073741824≤p.2)∧(p.1≤1073741824∧p.2≤1073741824) then 0 else 5
theorem vd_nk {p:Int × Int} (h:vdP p=0):Nk 1073741824 p.1∧Nk 1073741824 p.2:=by
 unfold vdP at h
 split at h
 ·rename_i h1; exact ⟨⟨by omega,by omega⟩,by omega,by omega⟩
 ·exact absurd h (by decide)
theorem nk_diff {x y:Int} (h:Nk 1073741824 x) (g:Nk 1073741824 y):Nk 2147483648 (x - y):=nk_sub h g
theorem nk_i {x:Int} (h:Nk 2147483648 x):I6 x:=nk_i6 h (by decide)
theorem g3_ok {ax ay bx by' cx cy:Int} (ha:Nk 1073741824 ax∧Nk 1073741824 ay) (hb:Nk 1073741824 bx∧Nk 1073741824 by') (hc:Nk 1073741824 cx∧Nk 1073741824 cy):G3 ax ay bx by' cx cy :=
 ⟨⟨nk_i (nk_diff hb.1 ha.1),nk_i (nk_diff hb.2 ha.2)⟩,⟨nk_i (nk_diff hc.1 ha.1),nk_i (nk_diff hc.2 ha.2)⟩,nk_prod (nk_diff hb.1 ha.1) (nk_diff hc.2 ha.2),nk_prod (nk_diff hb.2 ha.2) (nk_diff hc.1 ha.1)⟩
/-- The error and the value of SideOf. -/
def soE (ax ay bx by' cx cy:Int):Int:=fsE vdP [(ax,ay),(bx,by'),(cx,cy)]
def soV (ax ay bx by' cx cy:Int):Int:=if soE ax ay bx by' cx cy=0 then sdV ax ay bx by' cx cy else 0
theorem validp_any (x y:Int) (w:World) :
  Calls Tryz.prog 75 #[.agg #[.int .i64 x,.int .i64 y]] w fun e w'=>e=.returned (.int .i64 (vdP (x,y)))∧Below w.heap.size w w':=valid_any x y w
theorem away_any (ax ay bx by':Int) (w:World) (h1:I6 (bx - ax)) (h2:I6 (by' - ay)) :
  Calls Tryz.prog 100 #[.agg #[.int .i64 ax,.int .i64 ay],.agg #[.int .i64 bx,.int .i64 by']] w fun e w'=>e=.returned (.agg #[.int .i64 (bx - ax),.int .i64 (by' - ay)])∧Below w.heap.size w w':=by
 have HA:=hJ h1
 have HB:=hJ h2
 clear h1 h2
 obtain ⟨x1,aA⟩:=nmz (((w.alloc (.cells #[.int .i64 ax,.int .i64 ay] 23)).alloc (.cells #[.int .i64 bx,.int .i64 by'] 23)).alloc (.cells #[.int .i64 0,.int .i64 0] 23))
 have aI:=hJ (show Below w.heap.size w x1 by rw [←aA]; exact ((((Below.refl _ _).alloc (Nat.le_refl _) _).alloc (by simp only [World.size_alloc]; omega) _).alloc (by simp only [World.size_alloc]; omega) _))
 have aC:=hJ (show BX 23 x1 w.heap.size #[.int .i64 ax,.int .i64 ay] by rw [←aA]; exact (((BX.at rfl).alloc _).alloc _))
 have aD:=hJ (show BX 23 x1 (w.heap.size+1) #[.int .i64 bx,.int .i64 by'] by rw [←aA]; exact ((BX.at (by simp only [World.size_alloc])).alloc _))
 have aB:=hJ (show BX 23 x1 (w.heap.size+2) #[.int .i64 0,.int .i64 0] by rw [←aA]; exact (BX.at (by simp only [World.size_alloc])))
 have aJ:=hJ (show w.heap.size≤w.heap.size+2 by omega)
 have aK:=aD.out.cell 0 rfl
 have aL:=aC.out.cell 0 rfl
 have aM:IntKind.i64.wrap (bx - ax)=bx - ax:=i6_wrap HA.out
 have aO:=aD.out.cell 1 rfl
 have aR:=aC.out.cell 1 rfl
 have aS:IntKind.i64.wrap (by' - ay)=by' - ay:=i6_wrap HB.out
 have aT:=aB.out.frozen 0
 have aU:=aB.out.cell 0 rfl
 have aV:=aB.out.frozen 1
 have aW:=aB.out.cell 1 rfl
 obtain ⟨x6,aG⟩:=nmz (World.setCell (World.setCell x1 ⟨w.heap.size+2,0,none⟩ (.int .i64 (bx - ax))) ⟨w.heap.size+2,1,none⟩ (.int .i64 (by' - ay)))
 have aH:=hJ (show sto x1 (w.heap.size+2) 0 [.int .i64 (bx - ax),.int .i64 (by' - ay)]=x6 from aG)
 have aX:=hJ (show BX 23 x6 (w.heap.size+2) #[.int .i64 (bx - ax),.int .i64 (by' - ay)] by rw [←aH.out]; exact BX.put aB.out _ _)
 have aY:=hJ (show Below w.heap.size w x6 by rw [←aH.out]; exact below_sto aI.out aJ.out _ _)
 go_enter Tryz.func100,Tryz.ntmps100
 go_wp2
 clear aA aK aL aM aO aR aS aT aU aV aW aG
 exact bodyPost_ret (results_cell_row rfl _ _ _ _ _ _ _ rfl aX.out Tryz.underlying23 rfl G_size) rfl ⟨rfl,aY.out⟩
theorem bend_any (ax ay bx by':Int) (w:World) (h1:I6 (ax*by')) (h2:I6 (ay*bx)) :
  Calls Tryz.prog 99 #[.agg #[.int .i64 ax,.int .i64 ay],.agg #[.int .i64 bx,.int .i64 by']] w fun e w'=>e=.returned (.int .i64 (cmpI (ax*by') (ay*bx)))∧Below w.heap.size w w':=by
 have HA:=hJ h1
 have HB:=hJ h2
 clear h1 h2
 obtain ⟨x1,aA⟩:=nmz ((w.alloc (.cells #[.int .i64 ax,.int .i64 ay] 23)).alloc (.cells #[.int .i64 bx,.int .i64 by'] 23))
 have aD:=hJ (show Below w.heap.size w x1 by rw [←aA]; exact (((Below.refl _ _).alloc (Nat.le_refl _) _).alloc (by simp only [World.size_alloc]; omega) _))
 have aB:=hJ (show BX 23 x1 w.heap.size #[.int .i64 ax,.int .i64 ay] by rw [←aA]; exact ((BX.at rfl).alloc _))
 have aC:=hJ (show BX 23 x1 (w.heap.size+1) #[.int .i64 bx,.int .i64 by'] by rw [←aA]; exact (BX.at (by simp only [World.size_alloc])))
 have aG:=aB.out.cell 0 rfl
 have aH:=aC.out.cell 1 rfl
 have aI:IntKind.i64.wrap (ax*by')=ax*by':=i6_wrap HA.out
 have aJ:=aB.out.cell 1 rfl
 have aK:=aC.out.cell 0 rfl
 have aL:IntKind.i64.wrap (ay*bx)=ay*bx:=i6_wrap HB.out
 go_enter Tryz.func99,Tryz.ntmps99
 go_wp2_with fail
 clear aA aG aH aI aJ aK aL
 refine (cmpi_any (ax*by') (ay*bx) (cmpI (ax*by') (ay*bx)) x1 (cmpI_is _ _)).mono ?_
 rintro e w6 ⟨rfl,rfl⟩
 go_wp2
 go_ret
 exact ⟨rfl,aD.out⟩
theorem gridside_any (ax ay bx by' cx cy:Int) (w:World) (h:G3 ax ay bx by' cx cy) :
  Calls Tryz.prog 69 #[.agg #[.int .i64 ax,.int .i64 ay],.agg #[.int .i64 bx,.int .i64 by'],.agg #[.int .i64 cx,.int .i64 cy]] w fun e w'=>e=.returned (.int .i64 (sdV ax ay bx by' cx cy))∧Below w.heap.size w w':=by
 have HG:=hJ h
 clear h
 obtain ⟨x1,aA⟩:=nmz (((w.alloc (.cells #[.int .i64 ax,.int .i64 ay] 23)).alloc (.cells #[.int .i64 bx,.int .i64 by'] 23)).alloc (.cells #[.int .i64 cx,.int .i64 cy] 23))
 have aK:=hJ (show Below w.heap.size w x1 by rw [←aA]; exact ((((Below.refl _ _).alloc (Nat.le_refl _) _).alloc (by simp only [World.size_alloc]; omega) _).alloc (by simp only [World.size_alloc]; omega) _))
 have aC:=hJ (show BX 23 x1 w.heap.size #[.int .i64 ax,.int .i64 ay] by rw [←aA]; exact (((BX.at rfl).alloc _).alloc _))
 have aD:=hJ (show BX 23 x1 (w.heap.size+1) #[.int .i64 bx,.int .i64 by'] by rw [←aA]; exact ((BX.at (by simp only [World.size_alloc])).alloc _))
 have aG:=hJ (show BX 23 x1 (w.heap.size+2) #[.int .i64 cx,.int .i64 cy] by rw [←aA]; exact (BX.at (by simp only [World.size_alloc])))
 have aB:Hid (∀ w',Below x1.heap.size x1 w'→(fun w':World=>w'.cell? ⟨w.heap.size,0,none⟩=some (.int .i64 ax)∧w'.cell? ⟨w.heap.size,1,none⟩=some (.int .i64 ay)∧w'.cell? ⟨w.heap.size+1,0,none⟩=some (.int .i64 bx)∧w'.cell? ⟨w.heap.size+1,1,none⟩=some (.int .i64 by')∧w'.cell? ⟨w.heap.size+2,0,none⟩=some (.int .i64 cx)∧w'.cell? ⟨w.heap.size+2,1,none⟩=some (.int .i64 cy)∧Below x1.heap.size x1 w') w'):=hJ (fun w' hb=>⟨(BX.new aC.out hb).cell 0 rfl,(BX.new aC.out hb).cell 1 rfl,(BX.new aD.out hb).cell 0 rfl,(BX.new aD.out hb).cell 1 rfl,(BX.new aG.out hb).cell 0 rfl,(BX.new aG.out hb).cell 1 rfl,hb⟩)
 go_enter Tryz.func69,Tryz.ntmps69
 go_wp2_with fail
 clear aA
 obtain ⟨v2,hv2⟩:=nmz (World.drew x1)
 have aL:=hJ (show Below x1.heap.size x1 v2 by rw [←hv2]; exact (Below.refl _ _).drew)
 refine whd aB hv2 (fun hHeld=>?_)
 clear hv2
 refine tq 0 ?_
 refine tq 1 ?_
 refine tq 3 ?_
 refine tq 4 ?_
 try simp only [PT]
 refine ryy [2] ?_
 refine .cons rfl (fun K hK=>?_) .nil
 go_simp
 go_at_call 100
 refine (away_any ax ay bx by' v2 (HG.out.1.1) (HG.out.1.2)).mono ?_
 rintro e v3 ⟨rfl,hb⟩
 have aM:=hJ hb
 clear hb
 go_wp2_with fail
 have aH:=hJ (bt aL.out aM.out)
 clear hHeld
 refine hK.out _ _ (aB.out _ aH.out) (fun hHeld=>?_)
 clear hK K
 try simp only [PT]
 refine ryy [5] ?_
 refine .cons rfl (fun K hK=>?_) .nil
 go_simp
 go_at_call 100
 refine (away_any ax ay cx cy v3 (HG.out.2.1.1) (HG.out.2.1.2)).mono ?_
 rintro e v4 ⟨rfl,hb⟩
 have aO:=hJ hb
 clear hb
 go_wp2_with fail
 have aI:=hJ (bt aH.out aO.out)
 clear hHeld
 refine hK.out _ _ (aB.out _ aI.out) (fun hHeld=>?_)
 clear hK K
 try simp only [PT]
 refine ryy [6] ?_
 refine .cons rfl (fun K hK=>?_) .nil
 go_simp
 go_at_call 99
 refine (bend_any (bx - ax) (by' - ay) (cx - ax) (cy - ay) v4 (HG.out.2.2.1) (HG.out.2.2.2)).mono ?_
 rintro e v5 ⟨rfl,hb⟩
 have aR:=hJ hb
 clear hb
 go_wp2_with fail
 have aJ:=hJ (bt aI.out aR.out)
 clear hHeld
 refine hK.out _ _ (aB.out _ aJ.out) (fun hHeld=>?_)
 clear hK K
 refine tq 7 ?_
 try simp only [PT]
 refine wpAnyH_done (by kernel_rfl) ?_ _
 clear hHeld
 have aS:=hJ (bt aK.out aJ.out)
 go_wp2
 go_ret
 exact ⟨rfl,aS.out⟩
theorem valids_any (L:List (Int × Int)) (n g:Nat) (w:World) (hn:L.length=n) (hn2:n≤1000) (hq:BX 23 w g (ptV L).toArray) :
  Calls Tryz.prog 116 #[.slice (some ⟨g,0,none⟩) n n] w fun e w'=>e=.returned (.int .i64 (fsE vdP L))∧Below w.heap.size w w':=by
 have aI:=hJ hq
 have HN:=hJ hn
 have aJ:=hJ hn2
 clear hq hn hn2
 go_enter Tryz.func116,Tryz.ntmps116
 go_wp2_with fail
 go_loopw [8] (fun tv wr=>∃ i:Nat,i≤n∧tv=.int .i64 (i:Int)∧Below w.heap.size w wr∧Hid (fsE vdP (L.drop i)=fsE vdP L)) (fun tv _=>n - (intOf tv).toNat)
 case atStart=>exact ⟨0,by omega,rfl,Below.refl _ _,hJ rfl⟩
 case round =>
  obtain ⟨i,hi,rfl,hbel,HI⟩:=hrel
  obtain ⟨wl1,rfl⟩:∃ W:World,W=wr:=⟨_,rfl⟩
  have aA:=hJ hbel
  clear hbel
  have h0i:(0:Int)≤(i:Int):=by omega
  by_cases hlt:i < n
  ·obtain ⟨⟨x,y⟩,hp⟩:∃ p,L[i]?=some p:=⟨_,List.getElem?_eq_getElem (by rw [HN.out]; exact hlt)⟩
   have aK:=hJ (ptV_get hp).1
   have aL:=hJ (ptV_get hp).2
   have HD:=hJ (fs_drop (f:=vdP) hp)
   have hlt2:(i:Int) < (n:Int):=by omega
   have hw1:IntKind.i64.wrap ((i:Int)+1)=(i:Int)+1:=IntWalk.i64_in _ (by have:=aJ.out; omega)
   clear hp
   have aD:=hJ (BX.new aI.out aA.out)
   have aM:=aD.out.cell (i*2) aK.out
   have aO:=aD.out.cell (i*2+1) aL.out
   obtain ⟨x8,aB⟩:=nmz (wl1.alloc (.cells #[.int .i64 x,.int .i64 y] 23))
   have aG:=hJ (show Below wl1.heap.size wl1 x8 by rw [←aB]; exact ((Below.refl _ _).alloc (Nat.le_refl _) _))
   have aR:=hJ (show BX 23 x8 wl1.heap.size #[.int .i64 x,.int .i64 y] by rw [←aB]; exact (BX.at rfl))
   obtain ⟨aS,aT⟩:=aR.out.c2 0 1 rfl rfl
   go_wp2_with fail
   clear aM aO aB aS aT
   refine (validp_any x y x8).mono ?_
   rintro e w11 ⟨rfl,hb⟩
   have aH:=hJ hb
   clear hb
   by_cases hv:vdP (x,y)=0
   ·have HF:=hJ (show fsE vdP (L.drop (i+1))=fsE vdP L by rw [←HI.out,HD.out,if_pos (show vdP (x,y)=0 from hv)])
    have hvb:(vdP (x,y) == 0)=true:=by simp [hv]
    have aC:=hJ (bt (bt aA.out aG.out) aH.out)
    go_wp2_with fail
    go_roundw
    case rel=>exact ⟨i+1,by omega,by go_num,aC.out,HF⟩
    case measure=>simp [intOf] <;> omega
   have HR:=hJ (show fsE vdP L=vdP (x,y) by rw [←HI.out,HD.out,if_neg hv])
   have hvb:(vdP (x,y) == 0)=false:=by simp [hv]
   have aC:=hJ (bt (bt aA.out aG.out) aH.out)
   go_wp2
   go_ret
   exact ⟨by rw [HR.out] <;> rfl,aC.out⟩
  ·have hlt2:¬ (i:Int) < (n:Int):=by omega
   have HR:=hJ (show fsE vdP L=0 by rw [←HI.out,List.drop_of_length_le (by rw [HN.out]; omega)]; rfl)
   go_wp2
   go_ret
   exact ⟨by rw [HR.out] <;> rfl,aA.out⟩
end Go.Proofs.YtdgicnhadecldaaGreat
