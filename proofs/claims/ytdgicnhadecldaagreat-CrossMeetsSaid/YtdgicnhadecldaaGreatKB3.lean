/- Contracts of the program's words. Conditions: as each statement has them. -/
import Derived.Test.YtdgicnhadecldaaGreatKB2
import Derived.RangeFuncBox
import Derived.Laws.CopyOwn
import Derived.Deep.RegionWith
namespace Go.Proofs.YtdgicnhadecldaaGreat
set_option maxRecDepth 100000
set_option maxHeartbeats 12800000
open Go.RowKit
attribute [local go_sem ↓] Go.wp_at_zero Go.wp_at_succ

theorem w32_info:(Tryz.prog.info? 183).map (fun i=>(i.zero,i.size,i.bytes))=some (some (.int .u32 0),1,4):=by kernel_rfl
theorem w32_size (W:World):(sizeOf 183).run Tryz.prog W=.ok 1 W:=by kernel_rfl

theorem wordAt_any (l:List Nat) (A:Option Addr) (n c j:Nat) (w:World) (hl:LI .u32 w (.slice A n c) l) (_hn:n≤1000000) (_hj:j≤1000000) :
    Calls Tryz.prog 161 #[.slice A n c,.int .i64 (j:Int)] w fun e w'=>e=.returned (.int .u32 ((l.getD j 0:Nat):Int))∧w=w':=by
  by_cases h:j < n
  · obtain ⟨b,off,rfl,hb,hc⟩:=hl.at_ h
    clear hl
    generalize l.getD j 0=x at hc
    go_enter Tryz.func161,Tryz.ntmps161
    go_wp2
    go_ret
    exact ⟨rfl,rfl⟩
  · have h0:l.getD j 0=0:=getD_out (by have:=hl.len; omega)
    rw [h0]
    clear hl h0
    go_enter Tryz.func161,Tryz.ntmps161
    go_wp2
    go_ret
    exact ⟨rfl,rfl⟩
theorem adding_any (w:World):Calls Tryz.prog 160 #[] w fun e w'=>e=.returned (.func (.func 175) #[] #[.pointer (some ⟨w.heap.size,0,none⟩)])∧w.alloc (.cells #[.int .u64 0] 170)=w':=by
  go_enter Tryz.func160,Tryz.ntmps160
  go_wp2
  go_ret
  exact ⟨rfl,rfl⟩
theorem subtracting_any (w:World):Calls Tryz.prog 176 #[] w fun e w'=>e=.returned (.func (.func 181) #[] #[.pointer (some ⟨w.heap.size,0,none⟩)])∧w.alloc (.cells #[.int .u64 0] 170)=w':=by
  go_enter Tryz.func176,Tryz.ntmps176
  go_wp2
  go_ret
  exact ⟨rfl,rfl⟩
theorem multiplying_any (f:Int) (w:World):Calls Tryz.prog 168 #[.int .u32 f] w fun e w'=>e=.returned (.func (.func 177) #[] #[.pointer (some ⟨w.heap.size,0,none⟩),.pointer (some ⟨w.heap.size+1,0,none⟩)])∧(w.alloc (.cells #[.int .u32 f] 183)).alloc (.cells #[.int .u64 0] 170)=w':=by
  go_enter Tryz.func168,Tryz.ntmps168
  go_wp2
  go_ret
  exact ⟨rfl,rfl⟩
theorem adding1_any (x y q g:Nat) (w:World) (hx:x < 4294967296) (hy:y < 4294967296) (hq:q≤1) (h:Boxed w g 170 (.int .u64 (q:Int))) :
    Calls Tryz.prog 175 #[.int .u32 (x:Int),.int .u32 (y:Int),.pointer (some ⟨g,0,none⟩)] w fun e w'=>e=.returned (.int .u32 (((x+y+q) % 4294967296:Nat):Int))∧w.setCell ⟨g,0,none⟩ (.int .u64 (((x+y+q) / 4294967296:Nat):Int))=w':=by
  have hc:=h.cell
  have hf:=h.frozen
  obtain ⟨X,hX⟩:∃ X:Int,(x:Int)=X:=⟨_,rfl⟩
  obtain ⟨Y,hY⟩:∃ X:Int,(y:Int)=X:=⟨_,rfl⟩
  obtain ⟨Q,hQ⟩:∃ X:Int,(q:Int)=X:=⟨_,rfl⟩
  rw [show (((x+y+q) % 4294967296:Nat):Int)=(X+Y+Q) % 4294967296 by omega,show (((x+y+q) / 4294967296:Nat):Int)=(X+Y+Q) / 4294967296 by omega,hX,hY]
  rw [hQ] at hc
  have hX1:0≤X:=by omega
  have hX2:X < 4294967296:=by omega
  have hY1:0≤Y:=by omega
  have hY2:Y < 4294967296:=by omega
  have hQ1:0≤Q:=by omega
  have hQ2:Q≤1:=by omega
  clear hX hY hQ hx hy hq h
  go_enter Tryz.func175,Tryz.ntmps175
  go_wp2
  go_ret
  refine ⟨?_,?_⟩
  · rfl
  · rfl
/-- What is borrowed, and what is left. -/
def sbo (x y q:Nat):Nat:=if x < y+q then 1 else 0
def sle (x y q:Nat):Nat:=x+4294967296*sbo x y q - y - q
theorem sb_eq {x y q:Nat} (hy:y < 4294967296) (hq:q≤1):sle x y q+y+q=x+4294967296*sbo x y q:=by
  unfold sle sbo; split <;> omega
theorem sle_lt {x y q:Nat} (hx:x < 4294967296):sle x y q < 4294967296:=by
  unfold sle sbo; split <;> omega
theorem sbo_le (x y q:Nat):sbo x y q≤1:=by unfold sbo; split <;> omega
theorem wu64 (n:Int):IntKind.u64.wrap n=n % 18446744073709551616:=by simp [IntKind.wrap,IntKind.bits,IntKind.signed]
theorem sub_wrap1 {X Y Q:Int} (h1:0≤X) (h2:X < 4294967296) (h3:0≤Y) (h4:Y < 4294967296) (h5:0≤Q) (h6:Q≤1) (h:X < Y+Q) :
    IntKind.u64.wrap (IntKind.u64.wrap (X - Y) - Q) % 4294967296=X - Y - Q+4294967296∧IntKind.u64.wrap (IntKind.u64.wrap (X - Y) - Q) / 9223372036854775808=1:=by
  rw [wu64,wu64]; omega
theorem subtracting1_any (x y q g:Nat) (w:World) (hx:x < 4294967296) (hy:y < 4294967296) (hq:q≤1) (h:Boxed w g 170 (.int .u64 (q:Int))) :
    Calls Tryz.prog 181 #[.int .u32 (x:Int),.int .u32 (y:Int),.pointer (some ⟨g,0,none⟩)] w fun e w'=>e=.returned (.int .u32 ((sle x y q:Nat):Int))∧w.setCell ⟨g,0,none⟩ (.int .u64 ((sbo x y q:Nat):Int))=w':=by
  have hc:=h.cell
  have hf:=h.frozen
  obtain ⟨X,hX⟩:∃ X:Int,(x:Int)=X:=⟨_,rfl⟩
  obtain ⟨Y,hY⟩:∃ X:Int,(y:Int)=X:=⟨_,rfl⟩
  obtain ⟨Q,hQ⟩:∃ X:Int,(q:Int)=X:=⟨_,rfl⟩
  have hX1:0≤X:=by omega
  have hX2:X < 4294967296:=by omega
  have hY1:0≤Y:=by omega
  have hY2:Y < 4294967296:=by omega
  have hQ1:0≤Q:=by omega
  have hQ2:Q≤1:=by omega
  by_cases hlt:x < y+q
  · have HD:=hJ (show ((sle x y q:Nat):Int)=X - Y - Q+4294967296 by unfold sle sbo; rw [if_pos hlt]; omega)
    have HB:=hJ (show ((sbo x y q:Nat):Int)=1 by unfold sbo; rw [if_pos hlt]; rfl)
    have hXY:X < Y+Q:=by omega
    rw [HD.out,HB.out]
    rw [hX,hY]
    rw [hQ] at hc
    clear hX hY hQ hx hy hq h hlt HD HB
    go_enter Tryz.func181,Tryz.ntmps181
    go_wp2
    go_ret
    obtain ⟨e1,e2⟩:=sub_wrap1 hX1 hX2 hY1 hY2 hQ1 hQ2 hXY
    exact ⟨ret_int e1,by rw [e2]⟩
  · have HD:=hJ (show ((sle x y q:Nat):Int)=X - Y - Q by unfold sle sbo; rw [if_neg hlt]; omega)
    have HB:=hJ (show ((sbo x y q:Nat):Int)=0 by unfold sbo; rw [if_neg hlt]; rfl)
    have hXY:Y+Q≤X:=by omega
    rw [HD.out,HB.out]
    rw [hX,hY]
    rw [hQ] at hc
    clear hX hY hQ hx hy hq h hlt HD HB
    have e1:0≤X - Y:=by omega
    have e2:0≤X - Y - Q:=by omega
    go_enter Tryz.func181,Tryz.ntmps181
    go_wp2
    go_ret
    refine ⟨ret_int ?_,?_⟩
    · omega
    · rw [show (X - Y - Q) / 9223372036854775808=0 by omega]
theorem prod_bd {X F:Int} (h1:0≤X) (h2:X < 4294967296) (h3:0≤F) (h4:F < 4294967296):0≤X*F∧X*F≤18446744065119617025:=by
  refine ⟨Int.mul_nonneg h1 h3,?_⟩
  have:=Int.mul_le_mul (show X≤4294967295 by omega) (show F≤4294967295 by omega) h3 (by decide)
  omega
theorem multiplying1_any (x y f q g g':Nat) (w:World) (hx:x < 4294967296) (hy:y < 4294967296) (hf:f < 4294967296) (hq:q < 4294967296) (h:Boxed w g 183 (.int .u32 (f:Int))) (h':Boxed w g' 170 (.int .u64 (q:Int))) :
    Calls Tryz.prog 177 #[.int .u32 (x:Int),.int .u32 (y:Int),.pointer (some ⟨g,0,none⟩),.pointer (some ⟨g',0,none⟩)] w fun e w'=>e=.returned (.int .u32 (((x*f+y+q) % 4294967296:Nat):Int))∧w.setCell ⟨g',0,none⟩ (.int .u64 (((x*f+y+q) / 4294967296:Nat):Int))=w':=by
  have hc:=h.cell
  have hc':=h'.cell
  have hf':=h'.frozen
  obtain ⟨X,hX⟩:∃ X:Int,(x:Int)=X:=⟨_,rfl⟩
  obtain ⟨Y,hY⟩:∃ X:Int,(y:Int)=X:=⟨_,rfl⟩
  obtain ⟨F,hF⟩:∃ X:Int,(f:Int)=X:=⟨_,rfl⟩
  obtain ⟨Q,hQ⟩:∃ X:Int,(q:Int)=X:=⟨_,rfl⟩
  have hX1:0≤X:=by omega
  have hX2:X < 4294967296:=by omega
  have hY1:0≤Y:=by omega
  have hY2:Y < 4294967296:=by omega
  have hF1:0≤F:=by omega
  have hF2:F < 4294967296:=by omega
  have hQ1:0≤Q:=by omega
  have hQ2:Q < 4294967296:=by omega
  have hT:((x*f+y+q:Nat):Int)=X*F+Y+Q:=by rw [Int.natCast_add,Int.natCast_add,Int.natCast_mul,hX,hF,hY,hQ]
  rw [show (((x*f+y+q) % 4294967296:Nat):Int)=(X*F+Y+Q) % 4294967296 by rw [←hT]; rfl,show (((x*f+y+q) / 4294967296:Nat):Int)=(X*F+Y+Q) / 4294967296 by rw [←hT]; rfl,hX,hY]
  rw [hF] at hc
  rw [hQ] at hc'
  obtain ⟨b1,b2⟩:=prod_bd hX1 hX2 hF1 hF2
  clear hX hY hQ hF hx hy hq hf h h' hT
  go_enter Tryz.func177,Tryz.ntmps177
  go_wp2
  go_ret
  exact ⟨rfl,rfl⟩

theorem wordsOf_any (m:Nat) (w:World) (hm:m < 18446744073709551616) :
    Calls Tryz.prog 115 #[.int .u64 (m:Int)] w fun e w'=>e=.returned (.slice (some ⟨w.heap.size,0,none⟩) 2 2)∧Blk .u32 w' w.heap.size 183 [m % 4294967296,m / 4294967296]∧Below w.heap.size w w':=by
  obtain ⟨M,hM⟩:∃ X:Int,(m:Int)=X:=⟨_,rfl⟩
  have HB:=hJ (Blk.lit w .u32 183 [m % 4294967296,m / 4294967296])
  have h1:0≤M:=by omega
  have h2:M < 18446744073709551616:=by omega
  have HE:=hJ (show w.alloc (.cells #[.int .u32 (M % 4294967296),.int .u32 (M / 4294967296)] 183)=w.alloc (.cells (vs .u32 (nI [m % 4294967296,m / 4294967296])).toArray 183) by
    simp only [nI,vs,List.map_cons,List.map_nil,←hM]; rfl)
  rw [hM]
  clear hM hm
  go_enter Tryz.func115,Tryz.ntmps115
  go_wp2
  go_ret
  refine ⟨rfl,?_,(Below.refl _ w).alloc (Nat.le_refl _) _⟩
  have:=HB.out
  rw [←HE.out] at this
  exact this
theorem or_hi (a b:Nat) (ha:a < 4294967296) (hb:b < 4294967296):bits .or .u64 ((a:Int)*4294967296) (b:Int)=((b+4294967296*a:Nat):Int):=by
  rw [show (a:Int)*4294967296=((a*4294967296:Nat):Int) by omega,u64_or_nat _ _ (by omega) (by omega)]
  rw [nat_join 32 (a*4294967296) b (by omega) (by omega)]
  omega
theorem lowest_any (l:List Nat) (A:Option Addr) (n c:Nat) (w:World) (hd:Dig 4294967296 l) (hl:LI .u32 w (.slice A n c) l) (hn:n≤1000000) :
    Calls Tryz.prog 173 #[.slice A n c] w fun e w'=>e=.returned (.int .u64 ((l.getD 0 0+4294967296*l.getD 1 0:Nat):Int))∧w=w':=by
  have d0:=dig_getD (by decide) hd 0
  have d1:=dig_getD (by decide) hd 1
  have H0:=hJ (wordAt_any l A n c 0 w hl hn (by decide))
  have H1:=hJ (wordAt_any l A n c 1 w hl hn (by decide))
  generalize l.getD 0 0=x at d0 H0 ⊢
  generalize l.getD 1 0=y at d1 H1 ⊢
  have HO:=hJ (or_hi y x d1 d0)
  obtain ⟨X,hX⟩:∃ X:Int,(x:Int)=X:=⟨_,rfl⟩
  obtain ⟨Y,hY⟩:∃ X:Int,(y:Int)=X:=⟨_,rfl⟩
  have hX1:0≤X:=by omega
  have hX2:X < 4294967296:=by omega
  have hY1:0≤Y:=by omega
  have hY2:Y < 4294967296:=by omega
  rw [hX] at H0 HO
  rw [hY] at H1 HO
  clear hX hY hd hl d0 d1
  go_enter Tryz.func173,Tryz.ntmps173
  go_wp2_with fail
  refine H1.out.mono ?_
  rintro e w' ⟨rfl,rfl⟩
  go_wp2_with fail
  refine H0.out.mono ?_
  rintro e w' ⟨rfl,rfl⟩
  go_wp2
  go_ret
  exact ⟨ret_int HO.out,rfl⟩
end Go.Proofs.YtdgicnhadecldaaGreat

namespace Go.Proofs.YtdgicnhadecldaaGreat
set_option maxRecDepth 100000
set_option maxHeartbeats 12800000
open Go.RowKit
attribute [local go_sem ↓] Go.wp_at_zero Go.wp_at_succ

theorem trimmed_ok (ok:Nat→Prop) (l:List Nat) (A:Option Addr) (n c:Nat) (w:World) (hd:Dig 4294967296 l) (hl:LO .u32 ok w (.slice A n c) l) (hn:n≤1000000) :
    Calls Tryz.prog 149 #[.slice A n c] w fun e w'=>(∃ k,e=.returned (.slice A k c)∧LO .u32 ok w' (.slice A k c) (digs 4294967296 (val 4294967296 l))∧(digs 4294967296 (val 4294967296 l)).length=k∧k≤n∧l.take k=digs 4294967296 (val 4294967296 l))∧w=w':=by
  have HL:=hJ hl
  have HD:=hJ hd
  have HN:=hJ hl.len.1
  have HC:=hJ hl.len.2
  clear hl hd
  go_enter Tryz.func149,Tryz.ntmps149
  go_wp2_with fail
  go_loop [0] (fun v=>∃ (k:Nat),k≤n∧v=.slice A k c∧LO .u32 ok w v (l.take k)∧∃ j,l=l.take k ++ List.replicate j 0) (fun v=>lenOf v)
  case atStart=>exact ⟨n,Nat.le_refl _,rfl,by rw [List.take_of_length_le (by rw [HN.out]; exact Nat.le_refl _)]; exact HL.out,⟨0,by rw [List.take_of_length_le (by rw [HN.out]; exact Nat.le_refl _)]; simp⟩⟩
  case round =>
    obtain ⟨k,hk,rfl,hli,hz⟩:=hrel
    have aB:=hJ hli
    have HZ:=hJ hz
    clear hli hz
    rcases Nat.eq_zero_or_pos k with rfl | hp
    · have aA:=hJ (digs_of_zeros (B:=4294967296) (m:=l.take 0) (by decide) HD.out HZ.out (norm_take (Nat.zero_le _) (.inl rfl)))
      go_wp2
      go_ret
      exact ⟨⟨0,rfl,by rw [←aA.out]; exact aB.out,by rw [←aA.out]; simp,Nat.zero_le _,aA.out⟩,rfl⟩
    · obtain ⟨m,rfl⟩:∃ m,k=m+1:=⟨k - 1,by omega⟩
      obtain ⟨b,off,rfl,hb,hc⟩:=aB.out.at_ (j:=m) (by omega)
      rw [getD_take' (Nat.lt_succ_self m)] at hc
      obtain ⟨x,hx⟩:∃ x,l.getD m 0=x:=⟨_,rfl⟩
      rw [hx] at hc
      have HX:=hJ hx
      clear hx
      obtain ⟨z,hz⟩:∃ z:Int,(x:Int)=z:=⟨_,rfl⟩
      rw [hz] at hc
      have aC:=hJ hz
      clear hz
      obtain ⟨hsl,hli'⟩:=aB.out.to_same (P:=Tryz.prog) (ty:=31) Tryz.underlying31 w32_size m (by omega) (by have:=HC.out; omega) _ rfl
      by_cases h0:z=0
      · subst h0
        have aG:=hJ (take_zeros (l:=l) (k:=m) (by have:=HN.out; omega) (by have:=HX.out; have:=aC.out; omega) HZ.out)
        have aD:=hJ hli'
        rw [List.take_take,Nat.min_eq_left (Nat.le_succ m)] at aD
        clear hli'
        go_wp2
        go_round
        case rel=>exact ⟨m,by omega,rfl,aD.out,aG.out⟩
        case measure=>simp [lenOf]
      · have hz0:(z == 0)=false:=beq_eq_false_iff_ne.2 h0
        have aA:=hJ (digs_of_zeros (B:=4294967296) (m:=l.take (m+1)) (by decide) HD.out HZ.out (norm_take (by have:=HN.out; omega) (.inr (by rw [Nat.add_sub_cancel]; have:=HX.out; have:=aC.out; omega))))
        clear hli'
        go_wp2
        go_ret
        exact ⟨⟨m+1,rfl,by rw [←aA.out]; exact aB.out,by rw [←aA.out,List.length_take]; have:=HN.out; omega,hk,aA.out⟩,rfl⟩

/-- copy of as many cells as there are, into a block of zeros: its run, known ahead. -/
theorem run_copy_blk {P:Program} {w:World} {k:IntKind} {dT ty elem t:TypeId} {G n c:Nat} {A:Option Addr} {z l:List Nat} (hu:P.underlying dT=some (.slice elem)) (hs:(P.info? elem).map (·.size)=some 1)
    (hz:Blk k w G t z) (hzl:z.length=n) (hl:LI k w (.slice A n c) l) :
    ∃ w',(Builtin.copy_ #[dT,dT] ty #[.slice (some ⟨G,0,none⟩) n n,.slice A n c]).run P w=.ok (goInt n) w'∧Blk k w' G t l∧Below G w w':=by
  have hn:=hl.len.1
  rcases Nat.eq_zero_or_pos n with h0 | h0
  · subst h0
    obtain rfl:l=[]:=List.eq_nil_of_length_eq_zero hn
    obtain rfl:z=[]:=List.eq_nil_of_length_eq_zero hzl
    exact ⟨w,run_copy_none w dT dT ty elem _ _ _ _ _ _ hu hs rfl,hz,Below.refl _ _⟩
  · obtain ⟨ad,rfl,hc⟩:=In.cells hl h0
    have hcl:(vs k (nI l)).length=n:=by rw [vs_length,nI_len,hn]
    have hr:=run_copy_row (P:=P) w dT dT ty elem G 0 n n ad n c _ t (vs k (nI l)) hu hs hz (by rw [hcl]; exact (Nat.min_self n).symm) hc (by simp only [List.size_toArray,vs_length,nI_len]; omega) (vs_one _ _)
    rw [hcl] at hr
    refine ⟨_,hr,?_,⟨rfl,rfl,rfl,by simp [World.setRow],fun k hk=>setRow_other _ _ _ _ (by omega)⟩⟩
    unfold Blk
    rw [setRow_heap _ _ _ _ _ _ hz]
    congr 3
    rw [List.take_zero,List.nil_append,Nat.zero_add,List.drop_of_length_le (by simp only [vs_length,nI_len]; omega),List.append_nil]
theorem copied_any (l:List Nat) (A:Option Addr) (n c:Nat) (w:World) (hl:LI .u32 w (.slice A n c) l) (hn:n≤1000000) :
    Calls Tryz.prog 148 #[.slice A n c] w fun e w'=>e=.returned (.slice (some ⟨w.heap.size,0,none⟩) n n)∧Blk .u32 w' w.heap.size 183 l∧Below w.heap.size w w':=by
  obtain ⟨i0,hi0,hz0,hz1,hz2⟩:=info_parts w32_info
  have HL:=hJ hl
  have HI:=hJ (show (Tryz.prog.info? 183).map (·.size)=some 1 by rw [hi0,←hz1]; rfl)
  clear hl
  go_enter Tryz.func148,Tryz.ntmps148
  go_wp2_with (at_make; refine wpList_make_blk _ rfl _ _ 31 rfl 183 i0 .u32 4 Tryz.underlying31 hi0 hz0 hz1 hz2 n _ rfl rfl rfl (by decide) (by omega) ?_; intro w2 hblk hb2; obtain ⟨w3,hrun,hb3,hbel3⟩:=run_copy_blk (ty:=3) Tryz.underlying31 HI.out hblk List.length_replicate (HL.out.new hb2); have aA:=hJ hb2; have aB:=hJ hb3; have aC:=hJ hbel3; clear hblk hb2 hb3 hbel3)
  go_ret
  exact ⟨rfl,aB.out,aA.out.trans aC.out⟩
end Go.Proofs.YtdgicnhadecldaaGreat

namespace Go.Proofs.YtdgicnhadecldaaGreat
set_option maxRecDepth 100000
set_option maxHeartbeats 12800000
open Go.RowKit
attribute [local go_sem ↓] Go.wp_at_zero Go.wp_at_succ

theorem isNaNi_any (x:Int) (w:World):Calls Tryz.prog 146 #[.int .i64 x] w fun e w'=>e=.returned (.bool false)∧w=w':=by
  go_enter Tryz.func146,Tryz.ntmps146
  go_wp2
  go_ret
  exact ⟨rfl,rfl⟩
theorem isNaNw_any (x:Int) (w:World):Calls Tryz.prog 167 #[.int .u32 x] w fun e w'=>e=.returned (.bool false)∧w=w':=by
  go_enter Tryz.func167,Tryz.ntmps167
  go_wp2
  go_ret
  exact ⟨rfl,rfl⟩
theorem cmpi_any (x y v:Int) (w:World) (h:(x < y∧v = -1)∨(x=y∧v=0)∨(y < x∧v=1)):Calls Tryz.prog 106 #[.int .i64 x,.int .i64 y] w fun e w'=>e=.returned (.int .i64 v)∧w=w':=by
  rcases h with ⟨h,rfl⟩ | ⟨rfl,rfl⟩ | ⟨h,rfl⟩
  · go_enter Tryz.func106,Tryz.ntmps106
    go_wp2_with (first | (go_at_call 146; refine (isNaNi_any _ _).mono ?_; rintro e w' ⟨rfl,rfl⟩))
    go_ret
    exact ⟨rfl,rfl⟩
  · go_enter Tryz.func106,Tryz.ntmps106
    go_wp2_with (first | (go_at_call 146; refine (isNaNi_any _ _).mono ?_; rintro e w' ⟨rfl,rfl⟩))
    go_ret
    exact ⟨rfl,rfl⟩
  · have h':¬ x < y:=by omega
    go_enter Tryz.func106,Tryz.ntmps106
    go_wp2_with (first | (go_at_call 146; refine (isNaNi_any _ _).mono ?_; rintro e w' ⟨rfl,rfl⟩))
    go_ret
    exact ⟨rfl,rfl⟩
theorem cmpw_any (x y v:Int) (w:World) (h:(x < y∧v = -1)∨(x=y∧v=0)∨(y < x∧v=1)):Calls Tryz.prog 155 #[.int .u32 x,.int .u32 y] w fun e w'=>e=.returned (.int .i64 v)∧w=w':=by
  rcases h with ⟨h,rfl⟩ | ⟨rfl,rfl⟩ | ⟨h,rfl⟩
  · go_enter Tryz.func155,Tryz.ntmps155
    go_wp2_with (first | (go_at_call 167; refine (isNaNw_any _ _).mono ?_; rintro e w' ⟨rfl,rfl⟩))
    go_ret
    exact ⟨rfl,rfl⟩
  · go_enter Tryz.func155,Tryz.ntmps155
    go_wp2_with (first | (go_at_call 167; refine (isNaNw_any _ _).mono ?_; rintro e w' ⟨rfl,rfl⟩))
    go_ret
    exact ⟨rfl,rfl⟩
  · have h':¬ x < y:=by omega
    go_enter Tryz.func155,Tryz.ntmps155
    go_wp2_with (first | (go_at_call 167; refine (isNaNw_any _ _).mono ?_; rintro e w' ⟨rfl,rfl⟩))
    go_ret
    exact ⟨rfl,rfl⟩

theorem quiet_addl {P:Program} {f:FuncId} {args:Array Value} {w:World} {a n:Nat} {v:Value} (h:Calls P f args (w.drewN (a+n)) fun e w'=>e=.returned v∧w.drewN (a+n)=w') :
    Calls P f args (w.drewN (a+n)) fun e w''=>e=.returned v∧∃ m,w''=w.drewN (a+m):=h.mono fun _ _ ⟨he,hm⟩=>⟨he,n,hm.symm⟩
/-- Two numbers of equal length. -/
theorem compareWords_eq (la lb:List Nat) (A A':Option Addr) (n c c':Nat) (w:World) (hda:Dig 4294967296 la) (hdb:Dig 4294967296 lb) (hx:LI .u32 w (.slice A n c) la) (hy:LI .u32 w (.slice A' n c') lb) (hn:n≤1000000) :
    Calls Tryz.prog 128 #[.slice A n c,.slice A' n c'] w fun e w'=>e=.returned (.int .i64 (cmpN (val 4294967296 la) (val 4294967296 lb)))∧Below w.heap.size w w':=by
  have HX:=hJ hx
  have HY:=hJ hy
  have H1:=hJ hx.len.1
  have H2:=hJ hy.len.1
  have aD:=hJ hda
  have aG:=hJ hdb
  clear hx hy hda hdb
  go_enter Tryz.func128,Tryz.ntmps128
  go_wp2
  go_loopw [5] (fun i wr=>∃ z:Int, -1≤z∧z < (n:Int)∧i=.int .i64 z∧la.drop (z+1).toNat=lb.drop (z+1).toNat∧Below w.heap.size w wr) (fun i _=>(intOf i+1).toNat)
  case atStart=>exact ⟨(n:Int) - 1,by omega,by omega,rfl,by rw [List.drop_of_length_le (by rw [H1.out]; omega),List.drop_of_length_le (by rw [H2.out]; omega)],Below.refl _ _⟩
  case round =>
    obtain ⟨z,hz1,hz2,rfl,hd,hb⟩:=hrel
    have HD:=hJ hd
    have HB:=hJ hb
    clear hd hb
    by_cases hz:0≤z
    · obtain ⟨j,rfl⟩:∃ j:Nat,z=(j:Int):=⟨z.toNat,by omega⟩
      obtain ⟨b,off,rfl,hb1,hc1⟩:=(HX.out.new HB.out).at_ (j:=j) (by omega)
      obtain ⟨b',off',rfl,hb2,hc2⟩:=(HY.out.new HB.out).at_ (j:=j) (by omega)
      have aA:=hJ (show la.drop (j+1)=lb.drop (j+1) from HD.out)
      obtain ⟨X,hX⟩:∃ X:Int,((la.getD j 0:Nat):Int)=X:=⟨_,rfl⟩
      obtain ⟨Y,hY⟩:∃ Y:Int,((lb.getD j 0:Nat):Int)=Y:=⟨_,rfl⟩
      rw [hX] at hc1
      rw [hY] at hc2
      have aB:=hJ hX
      have aC:=hJ hY
      clear hX hY HD
      have hj1:(0:Int)≤(j:Int):=by omega
      have hj2:(j:Int) < (n:Int):=by omega
      by_cases hXY:X=Y
      · subst hXY
        have HE:=hJ (show la.drop j=lb.drop j by
          have e1:=H1.out
          have e2:=H2.out
          rw [drop_cons (by omega),drop_cons (l:=lb) (by omega),aA.out]
          have:la.getD j 0=lb.getD j 0:=by have:=aB.out; have:=aC.out; omega
          rw [this])
        go_wp2
        go_quiet (fail)
        go_wp2
        go_roundw
        case rel=>exact ⟨(j:Int) - 1,by omega,by omega,rfl,by rw [show ((j:Int) - 1+1).toNat=j by omega]; exact HE.out,by exact ⟨HB.out.os,HB.out.tape,HB.out.output,HB.out.size,HB.out.block⟩⟩
        case measure=>simp [intOf]
      · have hne:(X != Y)=true:=by rw [bne_iff_ne]; exact hXY
        obtain ⟨v,hv⟩:∃ v,cmpN (val 4294967296 la) (val 4294967296 lb)=v:=⟨_,rfl⟩
        have HV:=hJ hv
        have HC:=hJ (show (X < Y∧v = -1)∨(X=Y∧v=0)∨(Y < X∧v=1) by
          have e1:=aB.out
          have e2:=aC.out
          rcases Int.lt_trichotomy X Y with h | h | h
          · exact .inl ⟨h,by rw [←hv]; exact cmpN_lt (val_cmp (by decide) aD.out aA.out (by omega))⟩
          · exact absurd h hXY
          · exact .inr (.inr ⟨h,by rw [←hv]; exact cmpN_gt (val_cmp (by decide) aG.out aA.out.symm (by omega))⟩))
        clear hXY hv
        go_wp2
        go_quiet (fail)
        go_wp2
        go_quiet ((go_at_call 155; exact quiet_addl (cmpw_any X Y v _ HC.out)))
        go_wp2
        go_ret
        exact ⟨ret_int HV.out.symm,by exact ⟨HB.out.os,HB.out.tape,HB.out.output,HB.out.size,HB.out.block⟩⟩
    · obtain rfl:z = -1:=by omega
      go_wp2
      go_ret
      refine ⟨?_,HB.out⟩
      have:la=lb:=by
        have:=HD.out
        rw [show ((-1:Int)+1).toNat=0 by omega,List.drop_zero,List.drop_zero] at this
        exact this
      rw [this,cmpN_eq]
      rfl
end Go.Proofs.YtdgicnhadecldaaGreat

namespace Go.Proofs.YtdgicnhadecldaaGreat
set_option maxRecDepth 100000
set_option maxHeartbeats 12800000
open Go.RowKit
attribute [local go_sem ↓] Go.wp_at_zero Go.wp_at_succ

/-- Two trimmed numbers. -/
theorem compareWords_any (x y:Nat) (A A':Option Addr) (n n' c c':Nat) (w:World) (hx:LI .u32 w (.slice A n c) (digs 4294967296 x)) (hy:LI .u32 w (.slice A' n' c') (digs 4294967296 y)) (hn:n≤1000000) (hn':n'≤1000000) :
    Calls Tryz.prog 128 #[.slice A n c,.slice A' n' c'] w fun e w'=>e=.returned (.int .i64 (cmpN x y))∧Below w.heap.size w w':=by
  have h1:=hx.len.1
  have h2:=hy.len.1
  by_cases he:n=n'
  · subst he
    have:=compareWords_eq _ _ A A' n c c' w (dig_digs (by decide) x) (dig_digs (by decide) y) hx hy hn
    rwa [val_digs (by decide),val_digs (by decide)] at this
  · obtain ⟨v,hv⟩:∃ v,cmpN x y=v:=⟨_,rfl⟩
    have HC:=hJ (show ((n:Int) < (n':Int)∧v = -1)∨((n:Int)=(n':Int)∧v=0)∨((n':Int) < (n:Int)∧v=1) by
      rcases Nat.lt_trichotomy n n' with h | h | h
      · exact .inl ⟨by omega,by rw [←hv]; exact cmpN_lt (digs_len_lt (B:=4294967296) (by decide) (by omega))⟩
      · exact absurd h he
      · exact .inr (.inr ⟨by omega,by rw [←hv]; exact cmpN_gt (digs_len_lt (B:=4294967296) (by decide) (by omega))⟩))
    have hne:((n:Int) != (n':Int))=true:=by rw [bne_iff_ne]; omega
    rw [hv]
    clear hx hy h1 h2 he hv
    go_enter Tryz.func128,Tryz.ntmps128
    go_wp2_with (go_at_call 106; refine (cmpi_any _ _ v _ HC.out).mono ?_; rintro e w' ⟨rfl,rfl⟩)
    go_ret
    exact ⟨rfl,Below.refl _ _⟩

/-- What a function returns that returns words in a new block. -/
def RetB (P:List Nat→Prop) (w:World) (e:Ending) (w':World):Prop:=∃ G n o,e=.returned (.slice (some ⟨G,0,none⟩) n n)∧w.heap.size≤G∧Blk .u32 w' G 183 o∧o.length=n∧Dig 4294967296 o∧P o∧Below w.heap.size w w'
theorem bx_far {w:World} {g:Nat} {t:TypeId} {v:Value} (h:Boxed w g t v) {p:Addr} (hp:g≠p.block) (u:Value):Boxed (w.setCell p u) g t v:=(Below.heap_setCell w p u g hp).trans h
theorem bx_new {w w':World} {g:Nat} {t:TypeId} {v:Value} (h:Boxed w g t v) (hb:Below w.heap.size w w'):Boxed w' g t v:=(hb.block g h.lt).trans h

theorem sum_any (la lb:List Nat) (A A':Option Addr) (n n' c c':Nat) (w:World) (hda:Dig 4294967296 la) (hdb:Dig 4294967296 lb) (hx:LI .u32 w (.slice A n c) la) (hy:LI .u32 w (.slice A' n' c') lb) (hn:n≤900000) (hn':n'≤900000) :
    Calls Tryz.prog 134 #[.slice A n c,.slice A' n' c'] w (RetB (fun o=>val 4294967296 o=val 4294967296 la+val 4294967296 lb∧o.length=max n n'+1) w):=by
  obtain ⟨i0,hi0,hz0,hz1,hz2⟩:=info_parts w32_info
  have HX:=hJ hx
  have HY:=hJ hy
  have HN:=hJ hx.len.1
  have aU:=hJ hy.len.1
  have aV:=hJ hda
  have aW:=hJ hdb
  have aI:=hJ (show val 4294967296 la+val 4294967296 lb < 4294967296 ^ (max n n'+1) by
    have:=sum_fits (B:=4294967296) (by decide) hda hdb
    rwa [hx.len.1,hy.len.1] at this)
  obtain ⟨M,hM⟩:∃ M,max n n'=M:=⟨_,rfl⟩
  have hM1:n≤M:=by omega
  have hM2:n'≤M:=by omega
  have hM3:M≤900000:=by omega
  have hcase:(n'≤n∧M≤n)∨(n < n'∧M≤n'):=by omega
  rw [hM] at aI ⊢
  clear hx hy hda hdb hM
  rcases hcase with ⟨hc1,hc2⟩ | ⟨hc1,hc2⟩
  all_goals
    go_enter Tryz.func134,Tryz.ntmps134
    go_wp2_with (at_make; refine wpList_make_blk _ rfl _ _ 31 rfl 183 i0 .u32 4 Tryz.underlying31 hi0 hz0 hz1 hz2 (M+1) _ rfl rfl (by omega) (by decide) (by omega) ?_; intro w2 hblk hb2)
    refine (adding_any w2).mono ?_
    rintro e w3 ⟨rfl,hw3⟩
    obtain ⟨G,hG⟩:∃ G,w.heap.size=G:=⟨_,rfl⟩
    rw [hG] at hblk hb2 ⊢
    obtain ⟨C,hC⟩:∃ C,w2.heap.size=C:=⟨_,rfl⟩
    rw [hC]
    have HG:=hJ hG
    have aD:=hJ (show Boxed w3 C 170 (.int .u64 ((0:Nat):Int)) by rw [←hw3,←hC]; exact Boxed.new _ _ _)
    have aJ:=hJ (show Blk .u32 w3 G 183 (List.replicate (M+1) 0) by rw [←hw3]; exact hblk.alloc _)
    have aK:=hJ (show Below G w w3 by rw [←hw3]; exact hb2.alloc (Nat.le_of_lt hblk.lt) _)
    have aG:=hJ (show G < C by rw [←hC]; exact hblk.lt)
    clear hw3 hG hC hblk hb2
    go_wp2_with fail
    go_loopw [18] (fun i wr=>∃ (k q:Nat) (r:List Nat),k≤M+1∧i=.int .i64 k∧r.length=k∧Dig 4294967296 r∧q≤1∧val 4294967296 r+4294967296 ^ k*q=val 4294967296 (la.take k)+val 4294967296 (lb.take k)∧Boxed wr C 170 (.int .u64 (q:Int))∧Blk .u32 wr G 183 (r ++ List.replicate (M+1 - k) 0)∧Below G w wr) (fun i _=>M+1 - (intOf i).toNat)
    case atStart=>exact ⟨0,0,[],Nat.zero_le _,rfl,rfl,dig_nil,by omega,by simp [val],aD.out,aJ.out,aK.out⟩
    case round =>
      obtain ⟨k,q,r,hk,rfl,hrl,hrd,hq,hv,hbx,hblk,hbel⟩:=hrel
      have aA:=hJ hrl
      have aL:=hJ hrd
      have HQ:=hJ hq
      have HV:=hJ hv
      have aD:=hJ hbx
      have aM:=hJ hblk
      have aX:=hJ hbel
      have aH:=hJ (show Below w.heap.size w wr by rw [HG.out]; exact hbel)
      clear hrl hrd hq hv hbx hblk hbel aJ aK
      by_cases hlt:k < M+1
      · have d1:=dig_getD (B:=4294967296) (by decide) aV.out k
        have d2:=dig_getD (B:=4294967296) (by decide) aW.out k
        have aB:=hJ (plus_step (x:=la.getD k 0) (y:=lb.getD k 0) aA.out HV.out)
        rw [←val_take_succ,←val_take_succ] at aB
        have aO:=hJ (wordAt_any la A n c k wr (HX.out.new aH.out) (by omega) (by omega))
        have aR:=hJ (wordAt_any lb A' n' c' k wr (HY.out.new aH.out) (by omega) (by omega))
        have aC:=hJ (adding1_any (la.getD k 0) (lb.getD k 0) q C wr d1 d2 HQ.out aD.out)
        have HR:=hJ (show List.replicate (M+1 - k) 0=0 :: List.replicate (M+1 - (k+1)) 0 by
          rw [show M+1 - k=(M+1 - (k+1))+1 by omega]; rfl)
        generalize la.getD k 0=x at d1 aB aO aC
        generalize lb.getD k 0=y at d2 aB aR aC
        have aS:=hJ (show (x+y+q) / 4294967296≤1 by have:=HQ.out; omega)
        have aT:=hJ (show (x+y+q) % 4294967296 < 4294967296 by omega)
        obtain ⟨d,hd⟩:∃ d,(x+y+q) % 4294967296=d:=⟨_,rfl⟩
        obtain ⟨q',hq'⟩:∃ d,(x+y+q) / 4294967296=d:=⟨_,rfl⟩
        rw [hd] at aB aC aT
        rw [hq'] at aB aC aS
        clear hd hq' d1 d2
        go_wp2_with fail
        refine aO.out.mono ?_
        rintro e w' ⟨rfl,rfl⟩
        go_wp2_with fail
        refine aR.out.mono ?_
        rintro e w' ⟨rfl,rfl⟩
        go_wp2_with fail
        refine aC.out.mono ?_
        rintro e w4 ⟨rfl,hw4⟩
        have hb4:Blk .u32 w4 G 183 (r ++ (0 :: List.replicate (M+1 - (k+1)) 0)):=by
          rw [←hw4,←HR.out]
          exact aM.out.far (by have:=aG.out; show G≠C; omega) _
        have aY:=hJ (show Boxed w4 C 170 (.int .u64 (q':Int)) by rw [←hw4]; exact aD.out.set _)
        have aZ:=hJ (show Below G w w4 by rw [←hw4]; exact aX.out.setCell (p:=⟨C,0,none⟩) (Nat.le_of_lt aG.out) _)
        have hlen:(r ++ (0 :: List.replicate (M+1 - (k+1)) 0)).length=M+1:=by
          rw [List.length_append,aA.out,List.length_cons,List.length_replicate]; omega
        have hcell:=hb4.cell (i:=k) (by omega)
        have hfr:=hb4.frozen k
        have bA:=hJ (hb4.set_ k d)
        have bB:=hJ (set_at r (List.replicate (M+1 - (k+1)) 0) 0 d aA.out)
        rw [getD_at r _ 0 aA.out] at hcell
        clear hw4 hb4 hlen
        go_wp2
        go_roundw
        case rel =>
          refine ⟨k+1,q',r ++ [d],by omega,by go_num,by rw [List.length_append,aA.out]; rfl,dig_snoc aL.out aT.out,aS.out,aB.out,?_,?_,?_⟩
          · exact bx_far aY.out (p:=⟨G,k,none⟩) (by have:=aG.out; show C≠G; omega) _
          · have:=bA.out
            rw [bB.out] at this
            exact this
          · exact aZ.out.setCell (p:=⟨G,k,none⟩) (Nat.le_refl _) _
        case measure=>simp [intOf]; omega
      · obtain rfl:k=M+1:=by omega
        have bC:=hJ (carry_done (B:=4294967296) aA.out (by decide) aI.out (by
          have:=HV.out
          rw [val_take_all (by have:=HN.out; omega),val_take_all (l:=lb) (by have:=aU.out; omega)] at this
          exact this))
        go_wp2
        go_ret
        have hb:=aM.out
        rw [Nat.sub_self,List.replicate_zero,List.append_nil] at hb
        exact ⟨G,_,r,rfl,Nat.le_of_eq HG.out,hb,aA.out,aL.out,⟨bC.out.2,aA.out⟩,aH.out⟩
end Go.Proofs.YtdgicnhadecldaaGreat

namespace Go.Proofs.YtdgicnhadecldaaGreat
set_option maxRecDepth 100000
set_option maxHeartbeats 12800000
open Go.RowKit
attribute [local go_sem ↓] Go.wp_at_zero Go.wp_at_succ

theorem subtract_any (P seg T lb:List Nat) (A':Option Addr) (G off n c n' c':Nat) (w:World) (hblk:Blk .u32 w G 183 (P ++ (seg ++ T))) (hP:P.length=off) (hs:seg.length=n) (hds:Dig 4294967296 seg) (hdb:Dig 4294967296 lb) (hy:LO .u32 (· ≠ G) w (.slice A' n' c') lb) (hn:n≤900000) (ho:off≤900000) (hn':n'≤900000) (hle:val 4294967296 lb≤val 4294967296 seg) :
    Calls Tryz.prog 162 #[.slice (some ⟨G,off,none⟩) n c,.slice A' n' c'] w fun e w'=>e=.returned (.tuple #[])∧(∃ r,r.length=n∧Dig 4294967296 r∧val 4294967296 r=val 4294967296 seg - val 4294967296 lb∧Blk .u32 w' G 183 (P ++ (r ++ T)))∧Kp (· = G) w w':=by
  have HP:=hJ hP
  have HN:=hJ hs
  have HY:=hJ hy
  have aK:=hJ hds
  have aW:=hJ hdb
  have aX:=hJ hle
  have aY:=hJ hblk
  have aZ:=hJ hblk.lt
  clear hP hs hy hds hdb hle hblk
  go_enter Tryz.func162,Tryz.ntmps162
  go_wp2_with fail
  refine (subtracting_any w).mono ?_
  rintro e w3 ⟨rfl,hw3⟩
  obtain ⟨C,hC⟩:∃ C,w.heap.size=C:=⟨_,rfl⟩
  rw [hC]
  have aC:=hJ (show Boxed w3 C 170 (.int .u64 ((0:Nat):Int)) by rw [←hw3,←hC]; exact Boxed.new _ _ _)
  have aL:=hJ (show Blk .u32 w3 G 183 (P ++ (seg ++ T)) by rw [←hw3]; exact aY.out.alloc _)
  have aM:=hJ (show Kp (· = G) w w3 by rw [←hw3]; exact (Kp.refl _ w).alloc _)
  have aO:=hJ (show G < C by rw [←hC]; exact aZ.out)
  have bA:=hJ hC
  clear hw3 hC
  go_wp2_with fail
  go_loopw [9] (fun i wr=>∃ (k q:Nat) (r:List Nat),k≤n∧i=.int .i64 k∧r.length=k∧Dig 4294967296 r∧q≤1∧val 4294967296 r+val 4294967296 (lb.take k)=val 4294967296 (seg.take k)+4294967296 ^ k*q∧Boxed wr C 170 (.int .u64 (q:Int))∧Blk .u32 wr G 183 (P ++ (r ++ (seg.drop k ++ T)))∧Kp (· = G) w wr) (fun i _=>n - (intOf i).toNat)
  case atStart=>exact ⟨0,0,[],Nat.zero_le _,rfl,rfl,dig_nil,by omega,by simp [val],aC.out,by simpa using aL.out,aM.out⟩
  case round =>
    obtain ⟨k,q,r,hk,rfl,hrl,hrd,hq,hv,hbx,hblk,hkp⟩:=hrel
    have aA:=hJ hrl
    have aH:=hJ hrd
    have HQ:=hJ hq
    have HV:=hJ hv
    have aC:=hJ hbx
    have aR:=hJ hblk
    have aI:=hJ hkp
    clear hrl hrd hq hv hbx hblk hkp aL aM
    by_cases hlt:k < n
    · have d1:=dig_getD (B:=4294967296) (by decide) aK.out k
      have d2:=dig_getD (B:=4294967296) (by decide) aW.out k
      have aS:=hJ (drop_cons (l:=seg) (k:=k) (by rw [HN.out]; exact hlt))
      have aB:=hJ (minus_step (x:=seg.getD k 0) (y:=lb.getD k 0) (d:=sle (seg.getD k 0) (lb.getD k 0) q) (c:=sbo (seg.getD k 0) (lb.getD k 0) q) aA.out HV.out (sb_eq d2 HQ.out))
      rw [←val_take_succ,←val_take_succ] at aB
      have bB:=hJ (HY.out.kp aI.out (fun b _ h=>h))
      have aT:=fun W=>hJ (fun (hb:Below wr.heap.size wr W)=>wordAt_any lb A' n' c' k W (bB.out.new hb).weak (by omega) (by omega))
      have aJ:=fun W=>hJ (fun (hb:Boxed W C 170 (.int .u64 (q:Int)))=>subtracting1_any (seg.getD k 0) (lb.getD k 0) q C W d1 d2 HQ.out hb)
      have aD:=hJ (sle_lt (x:=seg.getD k 0) (y:=lb.getD k 0) (q:=q) d1)
      have aG:=hJ (sbo_le (seg.getD k 0) (lb.getD k 0) q)
      have hblk:=aR.out
      rw [aS.out,List.cons_append] at hblk
      have aU:=hJ hblk
      have hlen:(P ++ (r ++ (seg.getD k 0 :: (seg.drop (k+1) ++ T)))).length=off+k+1+(n - (k+1)+T.length):=by
        rw [List.length_append,List.length_append,List.length_cons,List.length_append,List.length_drop,HP.out,aA.out,HN.out]; omega
      have hcell:=hblk.cell (i:=off+k) (by omega)
      rw [getD_mid P r _ _ (by rw [HP.out,aA.out])] at hcell
      have aV:=hJ (fun d=>set_mid P r (seg.drop (k+1) ++ T) (seg.getD k 0) d (i:=off+k) (by rw [HP.out,aA.out]))
      clear hblk hlen
      generalize seg.getD k 0=x at d1 aB aJ hcell aD aG aU aV aS
      generalize lb.getD k 0=y at d2 aB aT aJ aD aG
      obtain ⟨d,hd⟩:∃ d,sle x y q=d:=⟨_,rfl⟩
      obtain ⟨q',hq'⟩:∃ d,sbo x y q=d:=⟨_,rfl⟩
      rw [hd] at aB aD
      rw [hq'] at aB aG
      have bC:=hJ hd
      have bD:=hJ hq'
      clear hd hq' d1 d2
      have hk0:(0:Int)≤(k:Int):=by omega
      have hk1:(k:Int) < (n:Int):=by omega
      go_wp2_with fail
      go_region_with ((first | (go_at_call 161; refine ((aT _).out (by exact (Below.refl _ wr).drew)).mono ?_; rintro e w' ⟨rfl,rfl⟩) | (go_at_call 181; refine ((aJ _).out (by exact aC.out)).mono ?_; rw [bC.out,bD.out]; rintro e w4 ⟨rfl,hw4⟩; have hb4:Blk .u32 w4 G 183 (P ++ (r ++ (x :: (seg.drop (k+1) ++ T)))):=(by rw [←hw4]; exact aU.out.drew.far (by have:=aO.out; show G≠C; omega) _); have hcell4:=hb4.cell (i:=off+k) (by rw [List.length_append,List.length_append,List.length_cons,HP.out,aA.out]; omega); have hfr4:=hb4.frozen (off+k); have bE:=hJ (show Boxed w4 C 170 (.int .u64 (q':Int)) by rw [←hw4]; exact aC.out.set _); have bF:=hJ (show Kp (· = G) w w4 by rw [←hw4]; exact aI.out.drew.setCell (p:=⟨C,0,none⟩) (fun h=>absurd h (by have:=bA.out; show ¬ C < _; omega)) _); have bG:=hJ (hb4.set_ (off+k) d); clear hw4 hb4)))
      all_goals
        go_wp2
        go_roundw
        case rel =>
          refine ⟨k+1,q',r ++ [d],by omega,by go_num,by rw [List.length_append,aA.out]; rfl,dig_snoc aH.out aD.out,aG.out,aB.out,?_,?_,?_⟩
          · exact bx_far bE.out (p:=⟨G,off+k,none⟩) (by have:=aO.out; show C≠G; omega) _
          · have:=bG.out
            rw [aV.out] at this
            exact this
          · exact bF.out.setCell (p:=⟨G,off+k,none⟩) (fun _=>rfl) _
        case measure=>simp [intOf]; omega
    · obtain rfl:k=n:=by omega
      go_wp2
      go_end0
      refine ⟨rfl,⟨r,aA.out,aH.out,minus_done aA.out aH.out (by decide) aK.out HN.out aX.out HV.out,?_⟩,aI.out⟩
      have:=aR.out
      rw [List.drop_of_length_le (by rw [HN.out]; exact Nat.le_refl _),List.nil_append] at this
      exact this
theorem difference_any (la lb:List Nat) (A A':Option Addr) (n n' c c':Nat) (w:World) (hda:Dig 4294967296 la) (hdb:Dig 4294967296 lb) (hx:LI .u32 w (.slice A n c) la) (hy:LI .u32 w (.slice A' n' c') lb) (hn:n≤900000) (hn':n'≤900000) (hle:val 4294967296 lb≤val 4294967296 la) :
    Calls Tryz.prog 135 #[.slice A n c,.slice A' n' c'] w (RetB (fun o=>val 4294967296 o=val 4294967296 la - val 4294967296 lb∧o.length=n) w):=by
  have HX:=hJ hx
  have HY:=hJ hy
  have HN:=hJ hx.len.1
  have aC:=hJ hda
  have aD:=hJ hdb
  have aG:=hJ hle
  clear hx hy hda hdb hle
  go_enter Tryz.func135,Tryz.ntmps135
  go_wp2_with fail
  refine (copied_any la A n c w HX.out (by omega)).mono ?_
  rintro e w2 ⟨rfl,hblk,hb2⟩
  obtain ⟨G,hG⟩:∃ G,w.heap.size=G:=⟨_,rfl⟩
  have aA:=hJ (HY.out.lt.new hb2)
  have aH:=hJ hb2
  rw [hG] at hblk aA ⊢
  have aI:=hJ hblk
  have HG:=hJ hG
  clear hblk hb2 hG
  go_wp2_with fail
  refine (subtract_any [] la [] lb A' G 0 n n n' c' w2 (by simpa using aI.out) rfl HN.out aC.out aD.out (aA.out.mono (fun b _ h e=>by omega)) hn (by decide) hn' aG.out).mono ?_
  rintro e w3 ⟨rfl,⟨r,hrl,hrd,hrv,hrb⟩,hk⟩
  have aB:=hJ hrl
  have aJ:=hJ hrd
  have aK:=hJ hrv
  have aL:=hJ hrb
  have HK:=hJ hk
  clear hrl hrd hrv hrb hk
  go_wp2
  go_ret
  refine ⟨G,n,r,rfl,Nat.le_of_eq HG.out,by simpa using aL.out,aB.out,aJ.out,⟨aK.out,aB.out⟩,?_⟩
  exact ((Kp.new aH.out).step HK.out (fun k hk e=>by have:=HG.out; omega)).below_new (fun _ _ e=>e)
end Go.Proofs.YtdgicnhadecldaaGreat

namespace Go.Proofs.YtdgicnhadecldaaGreat
set_option maxRecDepth 100000
set_option maxHeartbeats 12800000
open Go.RowKit
attribute [local go_sem ↓] Go.wp_at_zero Go.wp_at_succ

theorem times_any (la:List Nat) (A:Option Addr) (n c f m:Nat) (w:World) (hda:Dig 4294967296 la) (hx:LI .u32 w (.slice A n c) la) (hn:n≤900000) (hf:f < 4294967296) (hm:m < 4294967296) :
    Calls Tryz.prog 170 #[.slice A n c,.int .u32 (f:Int),.int .u32 (m:Int)] w (RetB (fun o=>val 4294967296 o=val 4294967296 la*f+m∧o.length=n+1) w):=by
  obtain ⟨i0,hi0,hz0,hz1,hz2⟩:=info_parts w32_info
  have HX:=hJ hx
  have HN:=hJ hx.len.1
  have aY:=hJ hda
  have HF:=hJ hf
  have HM:=hJ hm
  have aZ:=hJ (show val 4294967296 la*f+m < 4294967296 ^ (n+1) by
    have:=times_fits hda hf hm
    rwa [hx.len.1] at this)
  clear hx hda hf hm
  go_enter Tryz.func170,Tryz.ntmps170
  go_wp2_with (at_make; refine wpList_make_blk _ rfl _ _ 31 rfl 183 i0 .u32 4 Tryz.underlying31 hi0 hz0 hz1 hz2 (n+1) _ rfl rfl (by omega) (by decide) (by omega) ?_; intro w1 hblk hb1; have hcell:=hblk.cell (i:=0) (by simp); have hfr:=hblk.frozen 0)
  refine (multiplying_any (f:Int) _).mono ?_
  rintro e w3 ⟨rfl,hw3⟩
  obtain ⟨G,hG⟩:∃ G,w.heap.size=G:=⟨_,rfl⟩
  rw [hG] at hblk hb1 hw3 hfr hcell ⊢
  obtain ⟨w2,hw2⟩:∃ w2,w1.setCell ⟨G,0,none⟩ (.int .u32 (m:Int))=w2:=⟨_,rfl⟩
  rw [hw2] at hw3
  have hb2:Blk .u32 w2 G 183 (m :: List.replicate n 0):=by
    have:=hblk.set_ 0 m
    rw [hw2,List.replicate_succ,List.set_cons_zero] at this
    exact this
  have hbl2:Below G w w2:=by rw [←hw2]; exact hb1.setCell (p:=⟨G,0,none⟩) (Nat.le_refl _) _
  go_simp
  obtain ⟨C,hC⟩:∃ C,w2.heap.size=C:=⟨_,rfl⟩
  rw [hC]
  have HG:=hJ hG
  have aC:=hJ (show Boxed w3 C 183 (.int .u32 (f:Int)) by rw [←hw3,←hC]; exact (Boxed.new _ _ _).alloc _)
  have aD:=hJ (show Boxed w3 (C+1) 170 (.int .u64 ((0:Nat):Int)) by
    rw [←hw3,←hC]
    have:=Boxed.new (w2.alloc (.cells #[.int .u32 (f:Int)] 183)) 170 (.int .u64 0)
    rw [World.size_alloc] at this
    exact this)
  have aJ:=hJ (show Blk .u32 w3 G 183 (m :: List.replicate n 0) by rw [←hw3]; exact (hb2.alloc _).alloc _)
  have aL:=hJ (show Below G w w3 by rw [←hw3]; exact (hbl2.alloc (Nat.le_of_lt hb2.lt) _).alloc (by have:=hb2.lt; simp; omega) _)
  have aG:=hJ (show G < C by rw [←hC]; exact hb2.lt)
  clear hw3 hG hC hblk hb2 hb1 hbl2 hw2 hcell hfr
  go_wp2_with fail
  obtain ⟨z,hzd⟩:∃ z,m :: List.replicate n 0=z:=⟨_,rfl⟩
  rw [hzd] at aJ
  have bA:=hJ (show Dig 4294967296 z by rw [←hzd]; exact dig_cons.2 ⟨HM.out,dig_zeros (by decide) n⟩)
  have aH:=hJ (show z.length=n+1 by rw [←hzd]; simp)
  have bB:=hJ (show val 4294967296 z=m by rw [←hzd,val,val_zeros]; rfl)
  clear hzd
  go_loopw [21] (fun i wr=>∃ (k q:Nat) (r:List Nat),k≤n+1∧i=.int .i64 k∧r.length=k∧Dig 4294967296 r∧q < 4294967296∧val 4294967296 r+4294967296 ^ k*q=val 4294967296 (la.take k)*f+val 4294967296 (z.take k)∧Boxed wr C 183 (.int .u32 (f:Int))∧Boxed wr (C+1) 170 (.int .u64 (q:Int))∧Blk .u32 wr G 183 (r ++ z.drop k)∧Below G w wr) (fun i _=>n+1 - (intOf i).toNat)
  case atStart=>exact ⟨0,0,[],Nat.zero_le _,rfl,rfl,dig_nil,by omega,by simp [val],aC.out,aD.out,by simpa using aJ.out,aL.out⟩
  case round =>
    obtain ⟨k,q,r,hk,rfl,hrl,hrd,hq,hv,hbf,hbx,hblk,hbel⟩:=hrel
    have aA:=hJ hrl
    have aM:=hJ hrd
    have HQ:=hJ hq
    have HV:=hJ hv
    have aC:=hJ hbf
    have aD:=hJ hbx
    have aO:=hJ hblk
    have bC:=hJ hbel
    have aR:=hJ (show Below w.heap.size w wr by rw [HG.out]; exact hbel)
    clear hrl hrd hq hv hbf hbx hblk hbel aJ aL
    by_cases hlt:k < n+1
    · have d1:=dig_getD (B:=4294967296) (by decide) aY.out k
      have d2:=dig_getD (B:=4294967296) (by decide) bA.out k
      have aS:=hJ (drop_cons (l:=z) (k:=k) (by rw [aH.out]; exact hlt))
      have aB:=hJ (mulc_step (x:=la.getD k 0) (y:=z.getD k 0) aA.out HV.out)
      rw [←val_take_succ,←val_take_succ] at aB
      have aT:=fun W=>hJ (fun (hb:Below wr.heap.size wr W)=>wordAt_any la A n c k W ((HX.out.new aR.out).new hb) (by omega) (by omega))
      have aK:=fun W=>hJ (fun (hb:Boxed W C 183 (.int .u32 (f:Int))) (hb':Boxed W (C+1) 170 (.int .u64 (q:Int)))=>multiplying1_any (la.getD k 0) (z.getD k 0) f q C (C+1) W d1 d2 HF.out HQ.out hb hb')
      have hblk:=aO.out
      rw [aS.out] at hblk
      have aU:=hJ hblk
      have hlen:(r ++ (z.getD k 0 :: z.drop (k+1))).length=n+1:=by
        rw [List.length_append,List.length_cons,List.length_drop,aA.out,aH.out]; omega
      have aV:=hJ hlen
      have hcell:=hblk.cell (i:=k) (by omega)
      rw [getD_at r _ _ aA.out] at hcell
      have aW:=hJ (fun d=>set_at r (z.drop (k+1)) (z.getD k 0) d aA.out)
      have aI:=hJ (mulc_lt d1 d2 HF.out HQ.out)
      clear hblk hlen
      generalize la.getD k 0=x at d1 aB aK aT aI
      generalize z.getD k 0=y at d2 aB aK hcell aU aW aS aV aI
      have aX:=hJ (show (x*f+y+q) % 4294967296 < 4294967296 from Nat.mod_lt _ (by decide))
      obtain ⟨d,hd⟩:∃ d,(x*f+y+q) % 4294967296=d:=⟨_,rfl⟩
      obtain ⟨q',hq'⟩:∃ d,(x*f+y+q) / 4294967296=d:=⟨_,rfl⟩
      rw [hd] at aB aX
      rw [hq'] at aB aI
      have bD:=hJ hd
      have bE:=hJ hq'
      clear hd hq' d1 d2
      have hk0:(0:Int)≤(k:Int):=by omega
      have hk1:(k:Int) < (n:Int)+1:=by omega
      go_wp2_with fail
      go_region_with ((first | (go_at_call 161; refine ((aT _).out (by exact (Below.refl _ wr).drew)).mono ?_; rintro e w' ⟨rfl,rfl⟩) | (go_at_call 177; refine ((aK _).out (by exact aC.out) (by exact aD.out)).mono ?_; rw [bD.out,bE.out]; rintro e w4 ⟨rfl,hw4⟩; have hb4:Blk .u32 w4 G 183 (r ++ (y :: z.drop (k+1))):=(by rw [←hw4]; exact aU.out.drew.far (by have:=aG.out; show G≠C+1; omega) _); have hcell4:=hb4.cell (i:=k) (by rw [aV.out]; exact hlt); have hfr4:=hb4.frozen k; have bF:=hJ (show Boxed w4 C 183 (.int .u32 (f:Int)) by rw [←hw4]; exact bx_far (w:=wr.drew) aC.out (p:=⟨C+1,0,none⟩) (by show C≠C+1; omega) _); have bG:=hJ (show Boxed w4 (C+1) 170 (.int .u64 (q':Int)) by rw [←hw4]; exact aD.out.set _); have bH:=hJ (show Below G w w4 by rw [←hw4]; exact bC.out.drew.setCell (p:=⟨C+1,0,none⟩) (by have:=aG.out; show G≤C+1; omega) _); have bJ:=hJ (hb4.set_ k d); clear hw4 hb4)))
      all_goals
        go_wp2
        go_roundw
        case rel =>
          refine ⟨k+1,q',r ++ [d],by omega,by go_num,by rw [List.length_append,aA.out]; rfl,dig_snoc aM.out aX.out,aI.out,aB.out,?_,?_,?_,?_⟩
          · exact bx_far bF.out (p:=⟨G,k,none⟩) (by have:=aG.out; show C≠G; omega) _
          · exact bx_far bG.out (p:=⟨G,k,none⟩) (by have:=aG.out; show C+1≠G; omega) _
          · have:=bJ.out
            rw [aW.out] at this
            exact this
          · exact bH.out.setCell (p:=⟨G,k,none⟩) (Nat.le_refl _) _
        case measure=>simp [intOf]; omega
    · obtain rfl:k=n+1:=by omega
      have bK:=hJ (carry_done (B:=4294967296) aA.out (by decide) aZ.out (by
        have:=HV.out
        rw [val_take_all (by have:=HN.out; omega),val_take_all (l:=z) (by have:=aH.out; omega),bB.out] at this
        exact this))
      go_wp2
      go_ret
      have hb:=aO.out
      rw [List.drop_of_length_le (by rw [aH.out]; exact Nat.le_refl _),List.append_nil] at hb
      exact ⟨G,_,r,rfl,Nat.le_of_eq HG.out,hb,aA.out,aM.out,⟨bK.out.2,aA.out⟩,aR.out⟩
end Go.Proofs.YtdgicnhadecldaaGreat

namespace Go.Proofs.YtdgicnhadecldaaGreat
set_option maxRecDepth 100000
set_option maxHeartbeats 12800000
open Go.RowKit
attribute [local go_sem ↓] Go.wp_at_zero Go.wp_at_succ

theorem RowInv.step' {B:Nat} {la lb o:List Nat} {i k c:Nat} (hB:0 < B) (ha:Dig B la) (hb:Dig B lb) (h:RowInv B la lb i k c o) (hi:i < la.length) (hk:k < lb.length) :
    RowInv B la lb i (k+1) ((lb.getD k 0*la.getD i 0+o.getD (i+k) 0+c) / B) (o.set (i+k) ((lb.getD k 0*la.getD i 0+o.getD (i+k) 0+c) % B)):=by
  have:=h.step hB ha hb hi hk
  rwa [show o.getD (i+k) 0+la.getD i 0*lb.getD k 0+c=lb.getD k 0*la.getD i 0+o.getD (i+k) 0+c by rw [Nat.mul_comm (la.getD i 0)]; omega] at this
theorem product_any (la lb:List Nat) (A A':Option Addr) (n n' c c':Nat) (w:World) (hda:Dig 4294967296 la) (hdb:Dig 4294967296 lb) (hx:LI .u32 w (.slice A n c) la) (hy:LI .u32 w (.slice A' n' c') lb) (hn:n≤400000) (hn':n'≤400000) :
    Calls Tryz.prog 156 #[.slice A n c,.slice A' n' c'] w (RetB (fun o=>val 4294967296 o=val 4294967296 la*val 4294967296 lb∧o.length=n+n') w):=by
  obtain ⟨i0,hi0,hz0,hz1,hz2⟩:=info_parts w32_info
  have HX:=hJ hx
  have HY:=hJ hy
  have HN:=hJ hx.len.1
  have aM:=hJ hy.len.1
  have aT:=hJ hda
  have aU:=hJ hdb
  obtain ⟨m,hm⟩:∃ m,n+n'=m:=⟨_,rfl⟩
  have hm1:(n:Int)+(n':Int)=(m:Int):=by omega
  have hm2:m≤800000:=by omega
  have HM:=hJ hm
  have bA:=hJ hm1
  rw [hm]
  clear hx hy hda hdb hm hm1
  go_enter Tryz.func156,Tryz.ntmps156
  go_wp2_with (at_make; refine wpList_make_blk _ rfl _ _ 31 rfl 183 i0 .u32 4 Tryz.underlying31 hi0 hz0 hz1 hz2 m _ rfl rfl bA.out (by decide) (by omega) ?_; intro w2 hblk hb2)
  obtain ⟨G,hG⟩:∃ G,w.heap.size=G:=⟨_,rfl⟩
  rw [hG] at hblk hb2 ⊢
  have HG:=hJ hG
  have bB:=hJ hblk
  have bC:=hJ hb2
  clear hG hblk hb2
  go_loopw [19] (fun i wr=>∃ (j:Nat) (o:List Nat),j≤n∧i=.int .i64 j∧MulInv 4294967296 la lb j o∧Blk .u32 wr G 183 o∧Below G w wr) (fun i _=>n - (intOf i).toNat)
  case atStart=>exact ⟨0,_,Nat.zero_le _,rfl,MulInv.start (by decide) la lb,by rw [HN.out,aM.out,HM.out]; exact bB.out,bC.out⟩
  case round =>
    obtain ⟨j,o,hj,rfl,hmi,hblk,hbel⟩:=hrel
    have aO:=hJ hmi
    have aA:=hJ hblk
    have aC:=hJ hbel
    have aD:=hJ (show Below w.heap.size w wr by rw [HG.out]; exact hbel)
    clear hmi hblk hbel
    by_cases hlt:j < n
    · have aV:=hJ (show j < la.length by have:=HN.out; omega)
      have aG:=hJ (aO.out.row (by decide))
      obtain ⟨wo,hwo⟩:∃ wo:World,wo=wr:=⟨_,rfl⟩
      rw [←hwo] at aA aC aD ⊢
      clear hwo aO
      obtain ⟨b1,o1,rfl,hb1,aW⟩:=(HX.out.new aD.out).at_ hlt
      have d1:=dig_getD (B:=4294967296) (by decide) aT.out j
      obtain ⟨f,hf⟩:∃ f,la.getD j 0=f:=⟨_,rfl⟩
      rw [hf] at aW d1
      have HF:=hJ hf
      have aX:=hJ d1
      clear hf d1
      go_wp2_with fail
      refine (multiplying_any (f:Int) wo).mono ?_
      rintro e w3 ⟨rfl,hw3⟩
      obtain ⟨C,hC⟩:∃ C,wo.heap.size=C:=⟨_,rfl⟩
      rw [hC]
      have aH:=hJ (show Boxed w3 C 183 (.int .u32 (f:Int)) by rw [←hw3,←hC]; exact (Boxed.new _ _ _).alloc _)
      have aI:=hJ (show Boxed w3 (C+1) 170 (.int .u64 ((0:Nat):Int)) by
        rw [←hw3,←hC]
        have:=Boxed.new (wo.alloc (.cells #[.int .u32 (f:Int)] 183)) 170 (.int .u64 0)
        rw [World.size_alloc] at this
        exact this)
      have aY:=hJ (show Blk .u32 w3 G 183 o by rw [←hw3]; exact (aA.out.alloc _).alloc _)
      have aZ:=hJ (show Below G w w3 by rw [←hw3]; exact (aC.out.alloc (Nat.le_of_lt aA.out.lt) _).alloc (by have:=aA.out.lt; simp; omega) _)
      have aJ:=hJ (show G < C by rw [←hC]; exact aA.out.lt)
      clear hw3 hC aA aC aD aW
      go_wp2
      go_loopw [28] (fun i wr=>∃ (k q:Nat) (o:List Nat),k≤n'∧i=.int .i64 k∧RowInv 4294967296 la lb j k q o∧Boxed wr C 183 (.int .u32 (f:Int))∧Boxed wr (C+1) 170 (.int .u64 (q:Int))∧Blk .u32 wr G 183 o∧Below G w wr) (fun i _=>n' - (intOf i).toNat)
      case atStart=>exact ⟨0,0,o,Nat.zero_le _,rfl,aG.out,aH.out,aI.out,aY.out,aZ.out⟩
      case round =>
        clear aG aH aI aY aZ o
        obtain ⟨k,q,o,hk,rfl,hri,hbf,hbx,hblk,hbel⟩:=hrel
        have aG:=hJ hri
        have aH:=hJ hbf
        have aI:=hJ hbx
        have aA:=hJ hblk
        have aC:=hJ hbel
        have aD:=hJ (show Below w.heap.size w wr by rw [HG.out]; exact hbel)
        have aK:=hJ (show o.length=m by rw [hri.len,HN.out,aM.out]; exact HM.out)
        have HQ:=hJ hri.carry
        clear hri hbf hbx hblk hbel
        by_cases hkl:k < n'
        · have bD:=hJ (show k < lb.length by have:=aM.out; omega)
          have aL:=hJ (aG.out.step' (by decide) aT.out aU.out aV.out bD.out)
          rw [HF.out] at aL
          obtain ⟨b2,o2,rfl,hb2',bE⟩:=(HY.out.new aD.out).at_ hkl
          have bF:=aA.out.cell (i:=j+k) (by have:=aK.out; have:=HM.out; omega)
          have hf3:=aA.out.frozen (j+k)
          have d2:=dig_getD (B:=4294967296) (by decide) aU.out k
          have d3:=dig_getD (B:=4294967296) (by decide) aG.out.dig (j+k)
          have aB:=hJ (multiplying1_any (lb.getD k 0) (o.getD (j+k) 0) f q C (C+1) wr d2 d3 aX.out HQ.out aH.out aI.out)
          generalize lb.getD k 0=x0 at bE d2 aL aB
          generalize o.getD (j+k) 0=y0 at bF d3 aL aB
          obtain ⟨d,hd⟩:∃ d,(x0*f+y0+q) % 4294967296=d:=⟨_,rfl⟩
          obtain ⟨q',hq'⟩:∃ d,(x0*f+y0+q) / 4294967296=d:=⟨_,rfl⟩
          rw [hd] at aL aB
          rw [hq'] at aL aB
          clear hd hq' d2 d3
          have hj0:(0:Int)≤(j:Int):=by omega
          have hk0:(0:Int)≤(k:Int):=by omega
          have hjk0:(0:Int)≤(j:Int)+(k:Int):=by omega
          have hjk1:(j:Int)+(k:Int) < (m:Int):=by have:=HM.out; omega
          have e5:((j:Int)+(k:Int)).toNat=j+k:=by omega
          go_wp2_with fail
          refine aB.out.mono ?_
          rintro e w4 ⟨rfl,hw4⟩
          have hb4:Blk .u32 w4 G 183 o:=by
            rw [←hw4]; exact aA.out.far (by have:=aJ.out; show G≠C+1; omega) _
          have hcell4:=hb4.cell (i:=j+k) (by have:=aK.out; have:=HM.out; omega)
          obtain ⟨y1,hy1⟩:∃ y1,o.getD (j+k) 0=y1:=⟨_,rfl⟩
          rw [hy1] at hcell4
          have hfr4:=hb4.frozen (j+k)
          have bG:=hJ (show Boxed w4 C 183 (.int .u32 (f:Int)) by rw [←hw4]; exact bx_far aH.out (p:=⟨C+1,0,none⟩) (by show C≠C+1; omega) _)
          have bH:=hJ (show Boxed w4 (C+1) 170 (.int .u64 (q':Int)) by rw [←hw4]; exact aI.out.set _)
          have aR:=hJ (show Below G w w4 by rw [←hw4]; exact aC.out.setCell (p:=⟨C+1,0,none⟩) (by have:=aJ.out; show G≤C+1; omega) _)
          have aS:=hJ (hb4.set_ (j+k) d)
          clear hw4 hb4 hy1
          go_wp2
          go_roundw
          case rel=>exact ⟨k+1,q',o.set (j+k) d,by omega,by go_num,aL.out,bx_far bG.out (p:=⟨G,j+k,none⟩) (by have:=aJ.out; show C≠G; omega) _,bx_far bH.out (p:=⟨G,j+k,none⟩) (by have:=aJ.out; show C+1≠G; omega) _,aS.out,aR.out.setCell (p:=⟨G,j+k,none⟩) (Nat.le_refl _) _⟩
          case measure=>simp [intOf]; omega
        · obtain rfl:k=n':=by omega
          have bJ:=hJ (show MulInv 4294967296 la lb (j+1) (o.set (j+k) q) by
            have:=aG.out
            rw [←aM.out] at this ⊢
            exact this.done aV.out)
          have aB:=hJ (multiplying1_any 0 0 f q C (C+1) wr (by decide) (by decide) aX.out HQ.out aH.out aI.out)
          rw [show 0*f+0+q=q by omega,Nat.mod_eq_of_lt HQ.out] at aB
          have hjk1:(j:Int)+(k:Int) < (m:Int):=by have:=HM.out; omega
          have e5:((j:Int)+(k:Int)).toNat=j+k:=by omega
          go_wp2_with fail
          refine aB.out.mono ?_
          rintro e w4 ⟨rfl,hw4⟩
          have hb4:Blk .u32 w4 G 183 o:=by
            rw [←hw4]; exact aA.out.far (by have:=aJ.out; show G≠C+1; omega) _
          have hcell4:=hb4.cell (i:=j+k) (by have:=aK.out; have:=HM.out; omega)
          obtain ⟨y1,hy1⟩:∃ y1,o.getD (j+k) 0=y1:=⟨_,rfl⟩
          rw [hy1] at hcell4
          have hfr4:=hb4.frozen (j+k)
          have aR:=hJ (show Below G w w4 by rw [←hw4]; exact aC.out.setCell (p:=⟨C+1,0,none⟩) (by have:=aJ.out; show G≤C+1; omega) _)
          have aS:=hJ (hb4.set_ (j+k) q)
          clear hw4 hb4 hy1
          go_wp2
          go_roundw
          case rel=>exact ⟨j+1,o.set (j+k) q,by omega,by go_num,bJ.out,aS.out,aR.out.setCell (p:=⟨G,j+k,none⟩) (Nat.le_refl _) _⟩
          case measure=>simp [intOf]; omega
    · obtain rfl:j=n:=by omega
      have HV:=hJ (show val 4294967296 o=val 4294967296 la*val 4294967296 lb by
        have h:=aO.out
        rw [←HN.out] at h
        exact h.all)
      have aK:=hJ (show o.length=m by rw [aO.out.len,HN.out,aM.out]; exact HM.out)
      go_wp2
      go_ret
      exact ⟨G,m,o,rfl,Nat.le_of_eq HG.out,aA.out,aK.out,aO.out.dig,⟨HV.out,aK.out⟩,aD.out⟩
end Go.Proofs.YtdgicnhadecldaaGreat

namespace Go.Proofs.YtdgicnhadecldaaGreat
set_option maxRecDepth 100000
set_option maxHeartbeats 12800000
open Go.RowKit
attribute [local go_sem ↓] Go.wp_at_zero Go.wp_at_succ

theorem short_step {B D V R x d:Nat} (h:D=V*d+R):x+B*D=(B*V+(R*B+x) / d)*d+(R*B+x) % d:=by
  have:=Nat.div_add_mod (R*B+x) d
  rw [h,Nat.add_mul,Nat.mul_add,Nat.mul_assoc,Nat.mul_comm ((R*B+x) / d) d,Nat.add_assoc,this,Nat.mul_comm R B]
  omega
theorem short_q {B R x d:Nat} (hR:R < d) (hx:x < B) (hd:0 < d):(R*B+x) / d < B:=by
  rw [Nat.div_lt_iff_lt_mul hd]
  have:=Nat.mul_le_mul_right B hR
  rw [Nat.succ_mul] at this
  rw [Nat.mul_comm B d]
  omega

theorem shorten_any (seg T:List Nat) (G n c d:Nat) (w:World) (hblk:Blk .u32 w G 183 (seg ++ T)) (hs:seg.length=n) (hds:Dig 4294967296 seg) (hn:n≤900000) (hd0:0 < d) (hd:d < 4294967296) :
    Calls Tryz.prog 172 #[.slice (some ⟨G,0,none⟩) n c,.int .u32 (d:Int)] w fun e w'=>e=.returned (.int .u32 ((val 4294967296 seg % d:Nat):Int))∧(∃ r,r.length=n∧Dig 4294967296 r∧val 4294967296 r=val 4294967296 seg / d∧Blk .u32 w' G 183 (r ++ T))∧Kp (· = G) w w':=by
  have HN:=hJ hs
  have aR:=hJ hds
  have aS:=hJ hblk
  have aB:=hJ hd0
  have aA:=hJ hd
  obtain ⟨D,hD⟩:∃ D:Int,(d:Int)=D:=⟨_,rfl⟩
  rw [hD]
  have hD1:1≤D:=by omega
  have hD2:D < 4294967296:=by omega
  have HD:=hJ hD
  clear hs hds hblk hd0 hd hD
  go_enter Tryz.func172,Tryz.ntmps172
  go_wp2_with fail
  go_loopw [5,6] (fun v i wr=>∃ (z:Int) (R:Nat) (rq:List Nat), -1≤z∧z < (n:Int)∧i=.int .i64 z∧v=.int .u64 (R:Int)∧R < d∧rq.length+(z+1).toNat=n∧Dig 4294967296 rq∧val 4294967296 (seg.drop (z+1).toNat)=val 4294967296 rq*d+R∧Blk .u32 wr G 183 (seg.take (z+1).toNat ++ (rq ++ T))∧Kp (· = G) w wr) (fun _ i _=>(intOf i+1).toNat)
  case atStart =>
    refine ⟨(n:Int) - 1,0,[],by omega,by omega,rfl,rfl,aB.out,by simp,dig_nil,?_,?_,Kp.refl _ _⟩
    · rw [List.drop_of_length_le (by rw [HN.out]; omega)]; simp [val]
    · rw [show ((n:Int) - 1+1).toNat=n by omega,List.take_of_length_le (by rw [HN.out]; exact Nat.le_refl _)]
      exact aS.out
  case round =>
    obtain ⟨z,R,rq,hz1,hz2,rfl,rfl,hR,hrl,hrd,hv,hblk,hkp⟩:=hrel
    have HR:=hJ hR
    have aH:=hJ hrl
    have aI:=hJ hrd
    have HV:=hJ hv
    have aD:=hJ hblk
    have aJ:=hJ hkp
    clear hR hrl hrd hv hblk hkp
    by_cases hz:0≤z
    · obtain ⟨j,rfl⟩:∃ j:Nat,z=(j:Int):=⟨z.toNat,by omega⟩
      have aT:=hJ (show val 4294967296 (seg.drop (j+1))=val 4294967296 rq*d+R from HV.out)
      have aU:=hJ (show rq.length+(j+1)=n from aH.out)
      have hb:Blk .u32 wr G 183 (seg.take (j+1) ++ (rq ++ T)):=aD.out
      have aK:=hJ (show seg.take (j+1)=seg.take j ++ [seg.getD j 0] by
        rw [List.take_succ_eq_append_getElem (by rw [HN.out]; omega),List.getD_eq_getElem?_getD,List.getElem?_eq_getElem (by rw [HN.out]; omega)]; rfl)
      rw [aK.out,List.append_assoc,List.singleton_append] at hb
      have aG:=hJ (show (seg.take j).length=j by rw [List.length_take,HN.out]; omega)
      have hcell:=hb.cell (i:=j) (by rw [List.length_append,List.length_cons,aG.out]; omega)
      rw [getD_at _ _ _ aG.out] at hcell
      have hfr:=hb.frozen j
      have aL:=hJ (fun q=>hb.set_ j q)
      have aM:=hJ (fun q=>set_at (seg.take j) (rq ++ T) (seg.getD j 0) q aG.out)
      have aO:=hJ (val_drop (B:=4294967296) seg j)
      have d1:=dig_getD (B:=4294967296) (by decide) aR.out j
      clear hb HV aD
      generalize seg.getD j 0=x at hcell aL aM aO d1 aK
      have aC:=hJ (short_step (B:=4294967296) (x:=x) aT.out)
      have hq:=short_q (B:=4294967296) HR.out d1 aB.out
      have hr:=Nat.mod_lt (R*4294967296+x) aB.out
      have ho:=or_hi R x (by have:=HR.out; have:=aA.out; omega) d1
      obtain ⟨p,hp⟩:∃ p,R*4294967296+x=p:=⟨_,rfl⟩
      have hpl:p < 18446744073709551616:=by have:=HR.out; have:=aA.out; omega
      rw [show x+4294967296*R=p by omega] at ho
      rw [hp] at aC hq hr
      obtain ⟨X,hX⟩:∃ X:Int,(x:Int)=X:=⟨_,rfl⟩
      obtain ⟨S,hS⟩:∃ X:Int,(R:Int)=X:=⟨_,rfl⟩
      obtain ⟨P,hP⟩:∃ X:Int,(p:Int)=X:=⟨_,rfl⟩
      obtain ⟨q,hqe⟩:∃ q,p / d=q:=⟨_,rfl⟩
      obtain ⟨r,hre⟩:∃ r,p % d=r:=⟨_,rfl⟩
      rw [hqe] at aC hq
      rw [hre] at aC hr
      have e1:P / D=(q:Int):=by rw [←hP,←HD.out,←hqe]; rfl
      have e2:P % D=(r:Int):=by rw [←hP,←HD.out,←hre]; rfl
      rw [hX,hS,hP] at ho
      rw [hX] at hcell
      rw [hS]
      have hX1:0≤X:=by omega
      have hX2:X < 4294967296:=by omega
      have hS1:0≤S:=by omega
      have hS2:S < 4294967296:=by have:=HR.out; have:=aA.out; omega
      have hP1:0≤P:=by omega
      have hP2:P < 18446744073709551616:=by omega
      have HQ:=hJ hq
      have aV:=hJ hr
      have hq1:(q:Int) < 4294967296:=by omega
      have hr1:(r:Int) < 4294967296:=by have:=aA.out; omega
      clear hX hS hP hqe hre hp hpl hq hr d1
      have hj0:(0:Int)≤(j:Int):=by omega
      have hj1:(j:Int) < (n:Int):=by omega
      go_wp2
      go_roundw
      case rel =>
        refine ⟨(j:Int) - 1,r,q :: rq,by omega,by omega,rfl,by rw [e2],aV.out,?_,dig_cons.2 ⟨HQ.out,aI.out⟩,?_,?_,aJ.out.setCell (p:=⟨G,j,none⟩) (fun _=>rfl) _⟩
        · rw [show ((j:Int) - 1+1).toNat=j by omega,List.length_cons]; have:=aU.out; omega
        · rw [show ((j:Int) - 1+1).toNat=j by omega,aO.out,aC.out,val,Nat.add_comm q]
        · rw [show ((j:Int) - 1+1).toNat=j by omega]
          have:=aL.out q
          rw [aM.out,List.append_assoc,List.singleton_append,←List.cons_append] at this
          exact this
      case measure=>simp [intOf]
    · obtain rfl:z = -1:=by omega
      have aW:=hJ (show (R:Int) < 4294967296 by have:=HR.out; have:=aA.out; omega)
      have hR2:=aW.out
      go_wp2
      go_ret
      have hv:=HV.out
      rw [show ((-1:Int)+1).toNat=0 by omega,List.drop_zero] at hv
      have hm:val 4294967296 seg % d=R:=by rw [hv,Nat.add_comm,Nat.add_mul_mod_self_right,Nat.mod_eq_of_lt HR.out]
      have hq:val 4294967296 rq=val 4294967296 seg / d:=by rw [hv,Nat.add_comm,Nat.add_mul_div_right _ _ aB.out,Nat.div_eq_of_lt HR.out,Nat.zero_add]
      have hb:=aD.out
      rw [show ((-1:Int)+1).toNat=0 by omega,List.take_zero,List.nil_append] at hb
      have hl:=aH.out
      rw [show ((-1:Int)+1).toNat=0 by omega,Nat.add_zero] at hl
      refine ⟨ret_int ?_,⟨rq,hl,aI.out,hq,hb⟩,aJ.out⟩
      have h2:((val 4294967296 seg % d:Nat):Int)=R:=by rw [hm]
      exact h2.symm
end Go.Proofs.YtdgicnhadecldaaGreat

namespace Go.Proofs.YtdgicnhadecldaaGreat
set_option maxRecDepth 100000
set_option maxHeartbeats 12800000
open Go.RowKit
attribute [local go_sem ↓] Go.wp_at_zero Go.wp_at_succ

theorem tab_fin:∀ i:Fin 256,i.val < 2 ^ ((({ data:=#[0,1,2,2,3,3,3,3,4,4,4,4,4,4,4,4,5,5,5,5,5,5,5,5,5,5,5,5,5,5,5,5,6,6,6,6,6,6,6,6,6,6,6,6,6,6,6,6,6,6,6,6,6,6,6,6,6,6,6,6,6,6,6,6,7,7,7,7,7,7,7,7,7,7,7,7,7,7,7,7,7,7,7,7,7,7,7,7,7,7,7,7,7,7,7,7,7,7,7,7,7,7,7,7,7,7,7,7,7,7,7,7,7,7,7,7,7,7,7,7,7,7,7,7,7,7,7,7,8,8,8,8,8,8,8,8,8,8,8,8,8,8,8,8,8,8,8,8,8,8,8,8,8,8,8,8,8,8,8,8,8,8,8,8,8,8,8,8,8,8,8,8,8,8,8,8,8,8,8,8,8,8,8,8,8,8,8,8,8,8,8,8,8,8,8,8,8,8,8,8,8,8,8,8,8,8,8,8,8,8,8,8,8,8,8,8,8,8,8,8,8,8,8,8,8,8,8,8,8,8,8,8,8,8,8,8,8,8,8,8,8,8,8,8,8,8,8,8,8,8,8,8,8,8,8,8] }:ByteArray))[i.val]'(i.isLt)).toNat∧((({ data:=#[0,1,2,2,3,3,3,3,4,4,4,4,4,4,4,4,5,5,5,5,5,5,5,5,5,5,5,5,5,5,5,5,6,6,6,6,6,6,6,6,6,6,6,6,6,6,6,6,6,6,6,6,6,6,6,6,6,6,6,6,6,6,6,6,7,7,7,7,7,7,7,7,7,7,7,7,7,7,7,7,7,7,7,7,7,7,7,7,7,7,7,7,7,7,7,7,7,7,7,7,7,7,7,7,7,7,7,7,7,7,7,7,7,7,7,7,7,7,7,7,7,7,7,7,7,7,7,7,8,8,8,8,8,8,8,8,8,8,8,8,8,8,8,8,8,8,8,8,8,8,8,8,8,8,8,8,8,8,8,8,8,8,8,8,8,8,8,8,8,8,8,8,8,8,8,8,8,8,8,8,8,8,8,8,8,8,8,8,8,8,8,8,8,8,8,8,8,8,8,8,8,8,8,8,8,8,8,8,8,8,8,8,8,8,8,8,8,8,8,8,8,8,8,8,8,8,8,8,8,8,8,8,8,8,8,8,8,8,8,8,8,8,8,8,8,8,8,8,8,8,8,8,8,8,8,8] }:ByteArray))[i.val]'(i.isLt)).toNat≤8∧(0 < i.val→1≤((({ data:=#[0,1,2,2,3,3,3,3,4,4,4,4,4,4,4,4,5,5,5,5,5,5,5,5,5,5,5,5,5,5,5,5,6,6,6,6,6,6,6,6,6,6,6,6,6,6,6,6,6,6,6,6,6,6,6,6,6,6,6,6,6,6,6,6,7,7,7,7,7,7,7,7,7,7,7,7,7,7,7,7,7,7,7,7,7,7,7,7,7,7,7,7,7,7,7,7,7,7,7,7,7,7,7,7,7,7,7,7,7,7,7,7,7,7,7,7,7,7,7,7,7,7,7,7,7,7,7,7,8,8,8,8,8,8,8,8,8,8,8,8,8,8,8,8,8,8,8,8,8,8,8,8,8,8,8,8,8,8,8,8,8,8,8,8,8,8,8,8,8,8,8,8,8,8,8,8,8,8,8,8,8,8,8,8,8,8,8,8,8,8,8,8,8,8,8,8,8,8,8,8,8,8,8,8,8,8,8,8,8,8,8,8,8,8,8,8,8,8,8,8,8,8,8,8,8,8,8,8,8,8,8,8,8,8,8,8,8,8,8,8,8,8,8,8,8,8,8,8,8,8,8,8,8,8,8,8] }:ByteArray))[i.val]'(i.isLt)).toNat):=by decide +kernel
theorem tab_at (k:Nat) (h:k < 256):∃ t:Nat,((({ data:=#[0,1,2,2,3,3,3,3,4,4,4,4,4,4,4,4,5,5,5,5,5,5,5,5,5,5,5,5,5,5,5,5,6,6,6,6,6,6,6,6,6,6,6,6,6,6,6,6,6,6,6,6,6,6,6,6,6,6,6,6,6,6,6,6,7,7,7,7,7,7,7,7,7,7,7,7,7,7,7,7,7,7,7,7,7,7,7,7,7,7,7,7,7,7,7,7,7,7,7,7,7,7,7,7,7,7,7,7,7,7,7,7,7,7,7,7,7,7,7,7,7,7,7,7,7,7,7,7,8,8,8,8,8,8,8,8,8,8,8,8,8,8,8,8,8,8,8,8,8,8,8,8,8,8,8,8,8,8,8,8,8,8,8,8,8,8,8,8,8,8,8,8,8,8,8,8,8,8,8,8,8,8,8,8,8,8,8,8,8,8,8,8,8,8,8,8,8,8,8,8,8,8,8,8,8,8,8,8,8,8,8,8,8,8,8,8,8,8,8,8,8,8,8,8,8,8,8,8,8,8,8,8,8,8,8,8,8,8,8,8,8,8,8,8,8,8,8,8,8,8,8,8,8,8,8,8] }:ByteArray))[k]'h).toNat=t∧k < 2 ^ t∧t≤8∧(0 < k→1≤t):=⟨_,rfl,tab_fin ⟨k,h⟩⟩
theorem len_end {x y:Int} {k t a b:Nat} (hx:y=(k:Int)) (hk:k < 2 ^ t) (ht:t≤8) (h1:0 < k→1≤t) (hb:b=2 ^ a) (ha:a≤24) (hy:x < b*y+b) (hp:0 < x→1≤a∨0 < y) :
    ∃ s:Nat,Ending.returned (.int .i64 (wrap64 ((a:Int)+wrap64 (t:Int))))=.returned (.int .i64 (s:Int))∧x < 2 ^ s∧s≤32∧(0 < x→1≤s):=by
  refine ⟨a+t,?_,?_,by omega,?_⟩
  · rw [show wrap64 (t:Int)=(t:Int) by unfold wrap64; omega,show wrap64 ((a:Int)+(t:Int))=((a+t:Nat):Int) by unfold wrap64; omega]
  · have h:(b:Int)*y+b≤((2 ^ (a+t):Nat):Int):=by
      rw [Nat.pow_add,←hb,hx]
      have:=Nat.mul_le_mul_left b hk
      rw [Nat.mul_succ] at this
      have e:((b*k+b:Nat):Int)≤((b*2 ^ t:Nat):Int):=by omega
      rw [Int.natCast_add,Int.natCast_mul] at e
      exact e
    have e:((2 ^ (a+t):Nat):Int)=(2:Int) ^ (a+t):=by rw [Int.natCast_pow]; rfl
    rw [←e]
    omega
  · intro aA
    rcases hp aA with h | h
    · omega
    · have:=h1 (by omega); omega
theorem len32_0 (x:Int) (w:World) (h0:0≤x) (h1:x < 4294967296) (ha1:65536≤x) (hb1:256≤x / 65536) :
    Calls Tryz.prog 125 #[.int .u32 x] w fun e w'=>(∃ t:Nat,e=.returned (.int .i64 (t:Int))∧x < 2 ^ t∧t≤32∧(0 < x→1≤t))∧w=w':=by
  have hc1:0≤x / 65536 / 256:=by omega
  have hc2:x / 65536 / 256 < 256:=by omega
  have HT:=hJ (tab_at (x / 65536 / 256).toNat (by omega))
  have HE:=hJ (fun (t:Nat) (g1:(x / 65536 / 256).toNat < 2 ^ t) (g2:t≤8) (g3:0 < (x / 65536 / 256).toNat→1≤t)=>len_end (x:=x) (y:=x / 65536 / 256) (k:=(x / 65536 / 256).toNat) (t:=t) (a:=24) (b:=16777216) (by omega) g1 g2 g3 (by decide) (by decide) (by omega) (by omega))
  go_enter Tryz.func125,Tryz.ntmps125
  go_wp2
  go_ret
  obtain ⟨t,e1,e2,e3,e4⟩:=HT.out
  have:=HE.out t e2 e3 e4
  refine ⟨?_,rfl⟩
  rw [←e1] at this
  exact this
theorem len32_1 (x:Int) (w:World) (h0:0≤x) (h1:x < 4294967296) (ha1:65536≤x) (hb1:¬ 256≤x / 65536) :
    Calls Tryz.prog 125 #[.int .u32 x] w fun e w'=>(∃ t:Nat,e=.returned (.int .i64 (t:Int))∧x < 2 ^ t∧t≤32∧(0 < x→1≤t))∧w=w':=by
  have hc1:0≤x / 65536:=by omega
  have hc2:x / 65536 < 256:=by omega
  have HT:=hJ (tab_at (x / 65536).toNat (by omega))
  have HE:=hJ (fun (t:Nat) (g1:(x / 65536).toNat < 2 ^ t) (g2:t≤8) (g3:0 < (x / 65536).toNat→1≤t)=>len_end (x:=x) (y:=x / 65536) (k:=(x / 65536).toNat) (t:=t) (a:=16) (b:=65536) (by omega) g1 g2 g3 (by decide) (by decide) (by omega) (by omega))
  go_enter Tryz.func125,Tryz.ntmps125
  go_wp2
  go_ret
  obtain ⟨t,e1,e2,e3,e4⟩:=HT.out
  have:=HE.out t e2 e3 e4
  refine ⟨?_,rfl⟩
  rw [←e1] at this
  exact this
theorem len32_2 (x:Int) (w:World) (h0:0≤x) (h1:x < 4294967296) (ha1:¬ 65536≤x) (hb1:256≤x) :
    Calls Tryz.prog 125 #[.int .u32 x] w fun e w'=>(∃ t:Nat,e=.returned (.int .i64 (t:Int))∧x < 2 ^ t∧t≤32∧(0 < x→1≤t))∧w=w':=by
  have hc1:0≤x / 256:=by omega
  have hc2:x / 256 < 256:=by omega
  have HT:=hJ (tab_at (x / 256).toNat (by omega))
  have HE:=hJ (fun (t:Nat) (g1:(x / 256).toNat < 2 ^ t) (g2:t≤8) (g3:0 < (x / 256).toNat→1≤t)=>len_end (x:=x) (y:=x / 256) (k:=(x / 256).toNat) (t:=t) (a:=8) (b:=256) (by omega) g1 g2 g3 (by decide) (by decide) (by omega) (by omega))
  go_enter Tryz.func125,Tryz.ntmps125
  go_wp2
  go_ret
  obtain ⟨t,e1,e2,e3,e4⟩:=HT.out
  have:=HE.out t e2 e3 e4
  refine ⟨?_,rfl⟩
  rw [←e1] at this
  exact this
theorem len32_3 (x:Int) (w:World) (h0:0≤x) (h1:x < 4294967296) (ha1:¬ 65536≤x) (hb1:¬ 256≤x) :
    Calls Tryz.prog 125 #[.int .u32 x] w fun e w'=>(∃ t:Nat,e=.returned (.int .i64 (t:Int))∧x < 2 ^ t∧t≤32∧(0 < x→1≤t))∧w=w':=by
  have hc1:0≤x:=by omega
  have hc2:x < 256:=by omega
  have HT:=hJ (tab_at (x).toNat (by omega))
  have HE:=hJ (fun (t:Nat) (g1:(x).toNat < 2 ^ t) (g2:t≤8) (g3:0 < (x).toNat→1≤t)=>len_end (x:=x) (y:=x) (k:=(x).toNat) (t:=t) (a:=0) (b:=1) (by omega) g1 g2 g3 (by decide) (by decide) (by omega) (by omega))
  go_enter Tryz.func125,Tryz.ntmps125
  go_wp2
  go_ret
  obtain ⟨t,e1,e2,e3,e4⟩:=HT.out
  have:=HE.out t e2 e3 e4
  refine ⟨?_,rfl⟩
  rw [←e1] at this
  rw [show ((0:Nat):Int)=0 from rfl,Int.zero_add] at this
  exact this
theorem len32_any (x:Int) (w:World) (h0:0≤x) (h1:x < 4294967296) :
    Calls Tryz.prog 125 #[.int .u32 x] w fun e w'=>(∃ t:Nat,e=.returned (.int .i64 (t:Int))∧x < 2 ^ t∧t≤32∧(0 < x→1≤t))∧w=w':=by
  by_cases ha:65536≤x
  · by_cases hb:256≤x / 65536
    · exact len32_0 x w h0 h1 ha hb
    · exact len32_1 x w h0 h1 ha hb
  · by_cases hb:256≤x
    · exact len32_2 x w h0 h1 ha hb
    · exact len32_3 x w h0 h1 ha hb
/-- The shift that brings a word's highest bit to the front: the word times 2 to it is no more than a word. -/
theorem lz32_any (x:Nat) (w:World) (h0:0 < x) (h1:x < 4294967296) :
    Calls Tryz.prog 169 #[.int .u32 (x:Int)] w fun e w'=>(∃ z:Nat,e=.returned (.int .i64 (z:Int))∧z≤31∧(x+1)*2 ^ z≤4294967296)∧w=w':=by
  have HX:=hJ h0
  go_enter Tryz.func169,Tryz.ntmps169
  go_wp2_with fail
  refine (len32_any (x:Int) w (by omega) (by omega)).mono ?_
  rintro e w' ⟨⟨t,rfl,hlt,ht,hp⟩,rfl⟩
  have ht1:1≤t:=hp (by have:=HX.out; omega)
  have HT:=hJ hlt
  clear hlt hp
  go_wp2
  go_ret
  refine ⟨⟨32 - t,ret_int (by omega),by omega,?_⟩,rfl⟩
  have h2:x+1≤2 ^ t:=by
    have:=HT.out
    have e:((2 ^ t:Nat):Int)=(2:Int) ^ t:=by rw [Int.natCast_pow]; rfl
    rw [←e] at this
    omega
  have h3:=Nat.mul_le_mul_right (2 ^ (32 - t)) h2
  rw [←Nat.pow_add,show t+(32 - t)=32 by omega] at h3
  exact h3
end Go.Proofs.YtdgicnhadecldaaGreat

namespace Go.Proofs.YtdgicnhadecldaaGreat
set_option maxRecDepth 100000
set_option maxHeartbeats 12800000
open Go.RowKit
attribute [local go_sem ↓] Go.wp_at_zero Go.wp_at_succ

theorem guess_any (pl bl:List Nat) (A A':Option Addr) (m c c':Nat) (w:World) (hdp:Dig 4294967296 pl) (hdb:Dig 4294967296 bl) (hx:LI .u32 w (.slice A (m+2) c) pl) (hy:LI .u32 w (.slice A' (m+1) c') bl) (hm:m≤900000) (ht:0 < bl.getD m 0) :
    Calls Tryz.prog 171 #[.slice A (m+2) c,.slice A' (m+1) c'] w fun e w'=>(∃ g:Nat,e=.returned (.int .u32 (g:Int))∧g < 4294967296∧∀ q,q < 4294967296→q*val 4294967296 bl≤val 4294967296 pl→q≤g)∧Below w.heap.size w w':=by
  have HG:=hJ (fun q=>guess_ge (B:=4294967296) (m:=m) (q:=q) (by decide) hdp hx.len.1 hy.len.1 ht)
  obtain ⟨b1,o1,rfl,hb1,hc0⟩:=hx.at_ (j:=m) (by omega)
  obtain ⟨b1',o1',he,_,hc1⟩:=hx.at_ (j:=m+1) (by omega)
  injection he with he
  injection he with he1 he2
  subst he1 he2
  obtain ⟨b2,o2,rfl,hb2,hc2⟩:=hy.at_ (j:=m) (by omega)
  have d0:=dig_getD (B:=4294967296) (by decide) hdp m
  have d1:=dig_getD (B:=4294967296) (by decide) hdp (m+1)
  have d2:=dig_getD (B:=4294967296) (by decide) hdb m
  clear hx hy hdp hdb
  generalize pl.getD m 0=x at hc0 d0 HG
  generalize pl.getD (m+1) 0=y at hc1 d1 HG
  generalize bl.getD m 0=t at hc2 d2 ht HG
  have ho:=or_hi y x d1 d0
  obtain ⟨h,hh⟩:∃ h,x+4294967296*y=h:=⟨_,rfl⟩
  rw [hh] at ho HG
  obtain ⟨q,hq⟩:∃ q,h / t=q:=⟨_,rfl⟩
  rw [hq] at HG
  have hhl:h < 18446744073709551616:=by omega
  have hql:q≤h:=by rw [←hq]; exact Nat.div_le_self _ _
  obtain ⟨X,hX⟩:∃ X:Int,(x:Int)=X:=⟨_,rfl⟩
  obtain ⟨Y,hY⟩:∃ X:Int,(y:Int)=X:=⟨_,rfl⟩
  obtain ⟨T,hT⟩:∃ X:Int,(t:Int)=X:=⟨_,rfl⟩
  obtain ⟨P,hP⟩:∃ X:Int,(h:Int)=X:=⟨_,rfl⟩
  obtain ⟨Q,hQ⟩:∃ X:Int,(q:Int)=X:=⟨_,rfl⟩
  have e1:P / T=Q:=by rw [←hP,←hT,←hQ,←hq]; rfl
  rw [hX,hY,hP] at ho
  rw [hX] at hc0
  rw [hY] at hc1
  rw [hT] at hc2
  have hX1:0≤X:=by omega
  have hX2:X < 4294967296:=by omega
  have hY1:0≤Y:=by omega
  have hY2:Y < 4294967296:=by omega
  have hT1:1≤T:=by omega
  have hT2:T < 4294967296:=by omega
  have hP1:0≤P:=by omega
  have hP2:P < 18446744073709551616:=by omega
  have hQ1:0≤Q:=by omega
  have hQ2:Q < 18446744073709551616:=by omega
  have HQ:=hJ hQ
  clear hX hY hT hP hQ hq hh hhl hql d0 d1 d2 ht
  have s1:IntKind.i64.wrap ((m:Int)+1 - 1)=(m:Int):=by rw [show (m:Int)+1 - 1=m by omega]; exact IntWalk.i64_in _ (by omega)
  have s2:((m:Int)+1).toNat=m+1:=by omega
  have s3:(0:Int)≤(m:Int):=by omega
  have s4:IntKind.u64.wrap (Y*4294967296)=Y*4294967296:=by rw [wu64]; omega
  by_cases hle:Q≤4294967295
  · go_enter Tryz.func171,Tryz.ntmps171
    go_wp2
    go_quiet (fail)
    go_wp2
    go_ret
    exact ⟨⟨q,ret_int HQ.out.symm,by have:=HQ.out; omega,fun q' _ h=>HG.out q' h⟩,⟨rfl,rfl,rfl,Nat.le_refl _,fun _ _=>rfl⟩⟩
  · have hgt:4294967295 < Q:=by omega
    go_enter Tryz.func171,Tryz.ntmps171
    go_wp2
    go_quiet (fail)
    go_wp2
    go_ret
    exact ⟨⟨4294967295,rfl,by decide,fun q' h _=>by omega⟩,⟨rfl,rfl,rfl,Nat.le_refl _,fun _ _=>rfl⟩⟩
end Go.Proofs.YtdgicnhadecldaaGreat
