/- Greatest common divisors, the reference's and the program's. Conditions: as each statement has them. -/
import Derived.Test.YtdgicnhadecldaaGreatKB5
import Derived.Deep.LoopGhost
import Derived.Test.YtdgicnhadecldaaGreatKB2
import Derived.Test.YtdgicnhadecldaaGreatKB3
import Derived.Deep.RegionHeld3
import Derived.Deep.DrawnRows
namespace Go.Proofs.YtdgicnhadecldaaGreat
set_option maxRecDepth 100000
set_option maxHeartbeats 12800000
open Go.RowKit
attribute [local go_sem ↓] Go.wp_at_zero Go.wp_at_succ
end Go.Proofs.YtdgicnhadecldaaGreat

namespace Go.Proofs.YtdgicnhadecldaaGreat
set_option maxRecDepth 100000
set_option maxHeartbeats 12800000
open Go.RowKit
attribute [local go_sem ↓] Go.wp_at_zero Go.wp_at_succ
theorem high_or {x y z T sh:Nat} (hx:x < 4294967296) (hT:T=x+4294967296*(y+4294967296*z)) (hsh:sh≤31) (hlt:T*2 ^ sh < 2 ^ 96) :
    (y+4294967296*z)*2 ^ sh < 18446744073709551616∧x / 2 ^ (32 - sh) < 2 ^ sh ∧
    bits .or .u64 (((y+4294967296*z)*2 ^ sh:Nat):Int) ((x / 2 ^ (32 - sh):Nat):Int)=((T / 2 ^ (32 - sh):Nat):Int):=by
  generalize y+4294967296*z=t at *
  have hp:2 ^ sh*2 ^ (32 - sh)=4294967296:=by rw [←Nat.pow_add,show sh+(32 - sh)=32 by omega]
  have h1:t*2 ^ sh < 18446744073709551616:=by
    have h2:t*2 ^ sh*4294967296≤T*2 ^ sh:=by
      rw [hT,Nat.mul_right_comm]
      exact Nat.mul_le_mul_right _ (by omega)
    omega
  have h3:x / 2 ^ (32 - sh) < 2 ^ sh:=by
    rw [Nat.div_lt_iff_lt_mul (Nat.pow_pos (by decide)),hp]
    exact hx
  refine ⟨h1,h3,?_⟩
  have h4:x / 2 ^ (32 - sh) < 4294967296:=Nat.lt_of_le_of_lt (Nat.div_le_self _ _) hx
  rw [u64_or_nat _ _ h1 (by omega),Nat.mul_comm t,←Nat.two_pow_add_eq_or_of_lt h3,hT]
  congr 1
  rw [←hp]
  generalize 2 ^ sh=a at *
  have hb:0 < 2 ^ (32 - sh):=Nat.pow_pos (by decide)
  generalize 2 ^ (32 - sh)=b at *
  rw [Nat.mul_comm a b,Nat.mul_assoc,Nat.add_comm x,Nat.mul_add_div hb]
theorem quiet_m {P:Program} {f:FuncId} {args:Array Value} {w:World} {n:Nat} {v:Value} (h:Calls P f args (w.drewN n) fun e w'=>e=.returned v∧w.drewN n=w') :
    Calls P f args (w.drewN n) fun e w''=>e=.returned v∧∃ m,w''=w.drewN m:=h.mono fun _ _ ⟨he,hm⟩=>⟨he,n,hm.symm⟩
theorem highest1_any (l:List Nat) (A:Option Addr) (n c g g' K sh T:Nat) (w:World) (hd:Dig 4294967296 l) (hl:LI .u32 w (.slice A n c) l) (hn:n≤1000000) (hK:K+3≤1000000) (hsh:sh≤31) (hb:Boxed w g 3 (.int .i64 ((K+3:Nat):Int))) (hb':Boxed w g' 3 (.int .i64 (sh:Int))) (hT:T=l.getD K 0+4294967296*(l.getD (K+1) 0+4294967296*l.getD (K+2) 0)) (hlt:T*2 ^ sh < 2 ^ 96) :
    Calls Tryz.prog 182 #[.slice A n c,.pointer (some ⟨g,0,none⟩),.pointer (some ⟨g',0,none⟩)] w fun e w'=>e=.returned (.int .u64 ((T / 2 ^ (32 - sh):Nat):Int))∧Below w.heap.size w w':=by
  have d0:=dig_getD (by decide) hd K
  have d1:=dig_getD (by decide) hd (K+1)
  have d2:=dig_getD (by decide) hd (K+2)
  have hc:=hb.cell
  have hc':=hb'.cell
  have H0:=hJ (fun m=>wordAt_any l A n c K (w.drewN m) hl hn (by omega))
  have H1:=hJ (fun m=>wordAt_any l A n c (K+1) (w.drewN m) hl hn (by omega))
  have H2:=hJ (fun m=>wordAt_any l A n c (K+2) (w.drewN m) hl hn (by omega))
  generalize l.getD K 0=x at d0 H0 hT
  generalize l.getD (K+1) 0=y at d1 H1 hT
  generalize l.getD (K+2) 0=z at d2 H2 hT
  obtain ⟨q1,q2,q3⟩:=high_or d0 hT hsh hlt
  have ho:=or_hi z y d2 d1
  obtain ⟨N,hN⟩:∃ N:Int,((K+3:Nat):Int)=N:=⟨_,rfl⟩
  rw [hN] at hc
  obtain ⟨J0,e0⟩:∃ N:Int,(K:Int)=N:=⟨_,rfl⟩
  obtain ⟨J1,e1⟩:∃ N:Int,((K+1:Nat):Int)=N:=⟨_,rfl⟩
  obtain ⟨J2,e2⟩:∃ N:Int,((K+2:Nat):Int)=N:=⟨_,rfl⟩
  have t1:IntKind.i64.wrap (N - 1)=J2:=by rw [show N - 1=J2 by omega]; exact IntWalk.i64_in _ (by omega)
  have t2:IntKind.i64.wrap (N - 2)=J1:=by rw [show N - 2=J1 by omega]; exact IntWalk.i64_in _ (by omega)
  have t3:IntKind.i64.wrap (N - 3)=J0:=by rw [show N - 3=J0 by omega]; exact IntWalk.i64_in _ (by omega)
  rw [e0] at H0
  rw [e1] at H1
  rw [e2] at H2
  have hN1:3≤N:=by omega
  have hN2:N≤1000000:=by omega
  obtain ⟨X,hX⟩:∃ X:Int,(x:Int)=X:=⟨_,rfl⟩
  obtain ⟨Y,hY⟩:∃ X:Int,(y:Int)=X:=⟨_,rfl⟩
  obtain ⟨Z,hZ⟩:∃ X:Int,(z:Int)=X:=⟨_,rfl⟩
  obtain ⟨P,hP⟩:∃ X:Int,((y+4294967296*z:Nat):Int)=X:=⟨_,rfl⟩
  obtain ⟨t,ht⟩:∃ t,y+4294967296*z=t:=⟨_,rfl⟩
  have hPb:0≤P∧P < 18446744073709551616:=by omega
  have w1:IntKind.u64.wrap (Z*4294967296)=Z*4294967296:=by rw [wu64]; omega
  obtain ⟨Q,hQ⟩:∃ Q:Int,((t*2 ^ sh:Nat):Int)=Q:=⟨_,rfl⟩
  obtain ⟨R,hR⟩:∃ Q:Int,((x / 2 ^ (32 - sh):Nat):Int)=Q:=⟨_,rfl⟩
  obtain ⟨V,hV⟩:∃ Q:Int,((T / 2 ^ (32 - sh):Nat):Int)=Q:=⟨_,rfl⟩
  rw [hP,hY,hZ] at ho
  rw [ht] at q1 q3
  rw [hQ,hR,hV] at q3
  have w2:IntKind.u64.wrap (P*2 ^ sh)=Q:=by
    have e:(2:Int) ^ sh=((2 ^ sh:Nat):Int):=by rw [Int.natCast_pow]; rfl
    rw [e,←hP,ht,←Int.natCast_mul,hQ,wu64]
    omega
  have w3:X / 2 ^ (32 - sh)=R:=by
    have e:(2:Int) ^ (32 - sh)=((2 ^ (32 - sh):Nat):Int):=by rw [Int.natCast_pow]; rfl
    rw [e,←hX,←hR]
    rfl
  have w4:((32:Int) - (sh:Int)).toNat=32 - sh:=by omega
  rw [hX] at H0
  rw [hY] at H1
  rw [hZ] at H2
  rw [hV]
  have hX1:0≤X:=by omega
  have hX2:X < 4294967296:=by omega
  have hY1:0≤Y:=by omega
  have hY2:Y < 4294967296:=by omega
  have hZ1:0≤Z:=by omega
  have hZ2:Z < 4294967296:=by omega
  obtain ⟨hP1,hP2⟩:=hPb
  have t4:IntKind.i64.wrap (32 - (sh:Int))=32 - (sh:Int):=IntWalk.i64_in _ (by omega)
  have hs1:(0:Int)≤(sh:Int):=by omega
  have hs2:(sh:Int)≤31:=by omega
  clear hX hY hZ hP ht hQ hR hV hT hlt q1 q2 d0 d1 d2 hl hd hb hb' hN e0 e1 e2
  go_enter Tryz.func182,Tryz.ntmps182
  go_wp2
  go_quiet (first | (go_at_call_of 161 J2; exact quiet_m (H2.out _)) | (go_at_call_of 161 J1; exact quiet_m (H1.out _)))
  go_wp2
  go_quiet ((go_at_call_of 161 J0; exact quiet_addl (H0.out _)))
  go_wp2
  go_ret
  exact ⟨rfl,⟨rfl,rfl,rfl,Nat.le_refl _,fun _ _=>rfl⟩⟩
end Go.Proofs.YtdgicnhadecldaaGreat

namespace Go.Proofs.YtdgicnhadecldaaGreat
set_option maxRecDepth 100000
set_option maxHeartbeats 12800000
open Go.RowKit
attribute [local go_sem ↓] Go.wp_at_zero Go.wp_at_succ
theorem val_top {B:Nat} {l:List Nat} {K:Nat} (h:l.length≤K+3):val B (l.drop K)=l.getD K 0+B*(l.getD (K+1) 0+B*l.getD (K+2) 0):=by
  rw [val_drop,val_drop,val_drop,List.drop_of_length_le (by omega)]
  simp [val]
theorem val_div {B:Nat} (hB:0 < B) {l:List Nat} (h:Dig B l) (K:Nat):val B l / B ^ K=val B (l.drop K):=by
  have h1:=val_take_add (B:=B) l K
  have h2:=val_lt hB (dig_take h K)
  have h3:B ^ (l.take K).length≤B ^ K:=Nat.pow_le_pow_right hB (by rw [List.length_take]; omega)
  have h4:0 < B ^ K:=Nat.pow_pos hB
  rw [h1,Nat.add_mul_div_left _ _ h4,Nat.div_eq_of_lt (by omega),Nat.zero_add]
theorem top_digs {v K:Nat} (h:(digs 4294967296 v).length≤K+3):v / 4294967296 ^ K=(digs 4294967296 v).getD K 0+4294967296*((digs 4294967296 v).getD (K+1) 0+4294967296*(digs 4294967296 v).getD (K+2) 0):=by
  rw [←val_top h,←val_div (by decide) (dig_digs (by decide) v),val_digs (by decide)]
theorem high_lt {x y z T sh:Nat} (hx:x < 4294967296) (hy:y < 4294967296) (hT:T=x+4294967296*(y+4294967296*z)) (h:(z+1)*2 ^ sh≤4294967296):T*2 ^ sh < 2 ^ 96:=by
  have h0:0 < 2 ^ sh:=Nat.pow_pos (by decide)
  have h1:T+1≤(z+1)*18446744073709551616:=by omega
  have h2:(T+1)*2 ^ sh≤(z+1)*18446744073709551616*2 ^ sh:=Nat.mul_le_mul_right _ h1
  rw [Nat.mul_right_comm] at h2
  have h3:=Nat.mul_le_mul_right 18446744073709551616 h
  have h4:T*2 ^ sh < (T+1)*2 ^ sh:=Nat.mul_lt_mul_of_pos_right (by omega) h0
  omega
theorem highest_any (x y:Nat) (A A':Option Addr) (n c n' c':Nat) (w:World) (hx:LI .u32 w (.slice A n c) (digs 4294967296 x)) (hy:LI .u32 w (.slice A' n' c') (digs 4294967296 y)) (hle:y≤x) (hn:n≤1000000) (h3:3≤n) :
    Calls Tryz.prog 179 #[.slice A n c,.slice A' n' c'] w fun e w'=>(∃ S,0 < S∧x / S < 18446744073709551616∧e=.returned (.tuple #[.int .u64 ((x / S:Nat):Int),.int .u64 ((y / S:Nat):Int)]))∧Below w.heap.size w w':=by
  obtain ⟨K,rfl⟩:∃ K,n=K+3:=⟨n - 3,by omega⟩
  have hlx:=hx.len.1
  have hly:=hy.len.1
  have hn':n'≤K+3:=by rw [←hlx,←hly]; exact digs_len_mono (by decide) hle
  obtain ⟨b1,o1,rfl,hb1,hc1⟩:=hx.at_ (j:=K+2) (by omega)
  have d0:=dig_getD (by decide) (dig_digs (B:=4294967296) (by decide) x) K
  have d1:=dig_getD (by decide) (dig_digs (B:=4294967296) (by decide) x) (K+1)
  have d2:=dig_getD (by decide) (dig_digs (B:=4294967296) (by decide) x) (K+2)
  have hz0:0 < (digs 4294967296 x).getD (K+2) 0:=by
    have h:=digs_last (B:=4294967296) (n:=x) (by decide) (by rintro rfl; rw [digs_zero] at hlx; cases hlx)
    rw [hlx] at h
    exact Nat.pos_of_ne_zero h
  have HX:=hJ hx
  have HY:=hJ hy
  have aD:=hJ (top_digs (v:=x) (K:=K) (by omega))
  have aL:=hJ (top_digs (v:=y) (K:=K) (by omega))
  have aM:=hJ (Nat.div_le_div_right (c:=4294967296 ^ K) hle)
  have aG:=hJ (fun sh (h:((digs 4294967296 x).getD (K+2) 0+1)*2 ^ sh≤4294967296)=>high_lt d0 d1 aD.out h)
  have aH:=hJ (fun w=>lz32_any ((digs 4294967296 x).getD (K+2) 0) w hz0 d2)
  clear hx hy d0 d1 d2 hz0 hle hlx hly
  generalize (digs 4294967296 x).getD (K+2) 0=z at aH hc1 aG
  have s1:IntKind.i64.wrap ((K:Int)+3 - 1)=(K:Int)+2:=by rw [show (K:Int)+3 - 1=K+2 by omega]; exact IntWalk.i64_in _ (by omega)
  have s2:((K:Int)+2).toNat=K+2:=by omega
  go_enter Tryz.func179,Tryz.ntmps179
  go_wp2_with fail
  refine (aH.out _).mono ?_
  rintro e w1 ⟨⟨sh,rfl,hsh,hz⟩,rfl⟩
  obtain ⟨W,hW⟩:∃ W,(w.alloc (.cells #[.int .i64 ((K:Int)+3)] 3)).alloc (.cells #[.int .i64 (sh:Int)] 3)=W:=⟨_,rfl⟩
  have HK:=hJ (show Below w.heap.size w W by rw [←hW]; exact ((Below.refl _ w).alloc (Nat.le_refl _) _).alloc (by simp) _)
  have aI:=hJ (show Boxed W w.heap.size 3 (.int .i64 ((K+3:Nat):Int)) by rw [←hW]; exact (Boxed.new _ _ _).alloc _)
  have aJ:=hJ (show Boxed W (w.heap.size+1) 3 (.int .i64 (sh:Int)) by
    rw [←hW]
    have:=Boxed.new (w.alloc (.cells #[.int .i64 ((K:Int)+3)] 3)) 3 (.int .i64 (sh:Int))
    rw [World.size_alloc] at this
    exact this)
  have aA:=hJ hsh
  have aB:=hJ (aG.out sh hz)
  have aO:=hJ (Nat.lt_of_le_of_lt (Nat.mul_le_mul_right (2 ^ sh) aM.out) aB.out)
  obtain ⟨M,hM⟩:∃ M,x / 4294967296 ^ K / 2 ^ (32 - sh)=M:=⟨_,rfl⟩
  obtain ⟨N,hN⟩:∃ M,y / 4294967296 ^ K / 2 ^ (32 - sh)=M:=⟨_,rfl⟩
  have HM:=hJ hM
  have HN:=hJ hN
  clear hsh hz hc1 hM hN
  go_wp2_with fail
  refine (highest1_any (digs 4294967296 x) _ (K+3) c w.heap.size (w.heap.size+1) K sh _ W (dig_digs (by decide) x) (HX.out.new HK.out) hn hn aA.out aI.out aJ.out aD.out aB.out).mono ?_
  rw [HM.out]
  rintro e w2 ⟨rfl,hb2⟩
  have aK:=hJ hb2
  have aC:=hJ (HK.out.trans (hb2.mono HK.out.size))
  clear hb2 hW
  go_wp2_with fail
  refine (highest1_any (digs 4294967296 y) _ n' c' w.heap.size (w.heap.size+1) K sh _ w2 (dig_digs (by decide) y) (HY.out.new aC.out) (by omega) hn aA.out (bx_new aI.out aK.out) (bx_new aJ.out aK.out) aL.out aO.out).mono ?_
  rw [HN.out]
  rintro e w3 ⟨rfl,hb3⟩
  have aR:=hJ (aC.out.trans (hb3.mono aC.out.size))
  clear hb3
  have HQ:=hJ (show x / 4294967296 ^ K / 2 ^ (32 - sh)=x / (4294967296 ^ K*2 ^ (32 - sh))∧y / 4294967296 ^ K / 2 ^ (32 - sh)=y / (4294967296 ^ K*2 ^ (32 - sh)) from ⟨Nat.div_div_eq_div_mul _ _ _,Nat.div_div_eq_div_mul _ _ _⟩)
  have aS:=hJ (show x / 4294967296 ^ K / 2 ^ (32 - sh) < 18446744073709551616 by
    rw [Nat.div_lt_iff_lt_mul (Nat.pow_pos (by decide))]
    have h1:=aB.out
    have hs:=aA.out
    have hp:2 ^ sh*2 ^ (32 - sh)=4294967296:=by rw [←Nat.pow_add,show sh+(32 - sh)=32 by omega]
    have h2:x / 4294967296 ^ K*2 ^ sh < 18446744073709551616*2 ^ (32 - sh)*2 ^ sh:=by
      rw [Nat.mul_assoc,Nat.mul_comm (2 ^ (32 - sh)),hp]; exact h1
    exact Nat.lt_of_mul_lt_mul_right h2)
  go_wp2
  go_ret2
  refine ⟨⟨4294967296 ^ K*2 ^ (32 - sh),Nat.mul_pos (Nat.pow_pos (by decide)) (Nat.pow_pos (by decide)),?_,?_⟩,aR.out⟩
  · rw [←HQ.out.1]; exact aS.out
  · rw [←HQ.out.1,←HQ.out.2,HM.out,HN.out]; rfl
end Go.Proofs.YtdgicnhadecldaaGreat

namespace Go.Proofs.YtdgicnhadecldaaGreat
set_option maxRecDepth 100000
set_option maxHeartbeats 12800000
open Go.RowKit
attribute [local go_sem ↓] Go.wp_at_zero Go.wp_at_succ
theorem row_size:(Tryz.prog.info? 228).map (·.size)=some 2:=by kernel_rfl
/-- What certainSteps returns. -/
def RetC (a b m n:Nat) (w:World) (e:Ending) (w':World):Prop:=(∃ (m' n' u0 v0 u1 v1:Nat) (odd:Bool) (A B:Nat),CS a b m n m' n' u0 v0 u1 v1 odd A B∧e=.returned (.tuple #[.agg #[.int .u64 (u0:Int),.int .u64 (v0:Int)],.agg #[.int .u64 (u1:Int),.int .u64 (v1:Int)],.bool odd]))∧Below w.heap.size w w'
theorem nat_div_int (a b:Nat):((a:Int) / (b:Int))=((a / b:Nat):Int):=rfl
theorem nat_mod_int (a b:Nat):((a:Int) % (b:Int))=((a % b:Nat):Int):=rfl
theorem certain_any (a b S a0 b0 m n:Nat) (w:World) (ha:a=m*S+a0) (hb:b=n*S+b0) (ha0:a0 < S) (hb0:b0 < S) (hba:b≤a) (hm:m < 18446744073709551616) (hn:n≤m) :
    Calls Tryz.prog 178 #[.int .u64 (m:Int),.int .u64 (n:Int)] w (RetC a b m n w):=by
  have aW:=hJ (CS.start hn hba)
  have aX:=hJ (fun (m1 n1 u0 v0 u1 v1 A B:Nat) (odd:Bool) (h:CS a b m n m1 n1 u0 v0 u1 v1 odd A B)=>CS.step h hm ha hb ha0 hb0)
  have aG:=hJ hm
  have aY:=hJ hn
  obtain ⟨W,hW⟩:∃ W,(w.alloc (.cells #[.int .u64 1,.int .u64 0] 228)).alloc (.cells #[.int .u64 0,.int .u64 1] 228)=W:=⟨_,rfl⟩
  have HK:=hJ (show Below w.heap.size w W by rw [←hW]; exact W2_k _ _ _ _ _ _)
  have HA:=hJ (show P2 228 W w.heap.size (.int .u64 ((1:Nat):Int)) (.int .u64 ((0:Nat):Int)) by rw [←hW]; exact W2_a _ _ _ _ _ _)
  have HB:=hJ (show P2 228 W (w.heap.size+1) (.int .u64 ((0:Nat):Int)) (.int .u64 ((1:Nat):Int)) by rw [←hW]; exact W2_z _ _ _ _ _ _)
  clear ha hb ha0 hb0 hba hn hm
  go_enter Tryz.func178,Tryz.ntmps178
  go_wp2
  clear hW
  obtain ⟨M0,hM⟩:∃ z:Int,(m:Int)=z:=⟨_,rfl⟩
  obtain ⟨N0,hN⟩:∃ z:Int,(n:Int)=z:=⟨_,rfl⟩
  rw [hM,hN]
  have aZ:=hJ hM
  have bA:=hJ hN
  clear hM hN
  go_loopw [0,1,6] (fun vm vn vo wr=>∃ (m' n' u0 v0 u1 v1:Nat) (odd:Bool) (A B:Nat),vm=.int .u64 (m':Int)∧vn=.int .u64 (n':Int)∧vo=.bool odd∧m'≤m∧CS a b m n m' n' u0 v0 u1 v1 odd A B∧P2 228 wr w.heap.size (.int .u64 (u0:Int)) (.int .u64 (v0:Int))∧P2 228 wr (w.heap.size+1) (.int .u64 (u1:Int)) (.int .u64 (v1:Int))∧Below w.heap.size w wr) (fun _ vn _ _=>(intOf vn).toNat)
  case atStart=>exact ⟨m,n,1,0,0,1,false,a,b,by rw [aZ.out],by rw [bA.out],rfl,Nat.le_refl _,aW.out,HA.out,HB.out,HK.out⟩
  case round =>
    obtain ⟨m1,n1,u0,v0,u1,v1,odd,A,B,rfl,rfl,rfl,hm1,hcs,hp0,hp1,hbel⟩:=hrel
    have aA:=hJ hcs
    have H0:=hJ hp0
    have H1:=hJ hp1
    have aO:=hJ hbel
    have bB:=hJ (Nat.lt_of_le_of_lt hm1 aG.out)
    have bC:=hJ hm1
    have aR:=hJ hcs.f7
    clear hcs hp0 hp1 hbel hm1
    rcases Nat.eq_zero_or_pos n1 with hn0 | hn0
    · subst hn0
      obtain ⟨p0,p1⟩:=H0.out.cells
      obtain ⟨q0,q1⟩:=H1.out.cells
      have f0:=H0.out.frozen 0
      have f1:=H0.out.frozen 1
      have g0:=H1.out.frozen 0
      have g1:=H1.out.frozen 1
      go_wp2
      go_region
      all_goals
        go_wp2
        refine bodyPost_ret (results_cell3 rfl _ _ _ _ _ _ _ _ _ _ _ _ rfl rfl ((H0.out.all _ _).far2 (show w.heap.size≠w.heap.size+1 by omega) _ _) ((H1.out.far2 (show w.heap.size+1≠w.heap.size by omega) _ _).all _ _) Tryz.underlying228 rfl row_size Tryz.underlying228 rfl row_size) rfl ?_
        exact ⟨⟨m1,_,u0,v0,u1,v1,odd,A,B,aA.out,rfl⟩,(below_box (below_box aO.out (Nat.le_refl _) _ _) (Nat.le_succ _) _ _).drew⟩
    · have aH:=hJ (aX.out m1 n1 u0 v0 u1 v1 A B odd aA.out hn0)
      have aI:=hJ (aA.out.after_lt hn0)
      have hv1:=aA.out.f12.1
      obtain ⟨q,hq⟩:∃ q,m1 / n1=q:=⟨_,rfl⟩
      obtain ⟨r,hr⟩:∃ q,m1 % n1=q:=⟨_,rfl⟩
      have aJ:=hJ (show r < n1 by rw [←hr]; exact Nat.mod_lt _ hn0)
      rw [hq,hr] at aH
      rw [hq] at aI
      obtain ⟨a1,a2,a3,a4⟩:=aI.out
      have aS:=hJ (aA.out.after_le hn0)
      rw [hq,hr] at aS
      have aT:=hJ (show v0+q*v1≤r→v0+q*v1 < 4294967296 by
        intro h
        have h1:=aS.out.1
        have h2:=aJ.out
        have h3:=aG.out
        rcases Nat.lt_or_ge (v0+q*v1) 4294967296 with g | g
        · exact g
        · have:4294967296*4294967296≤(v0+q*v1)*n1:=Nat.mul_le_mul g (by omega)
          omega)
      have b1:m < 18446744073709551616:=aG.out
      have b2:=bB.out
      have b3:=aR.out
      have b4:=aJ.out
      have b5:q≤m1:=by rw [←hq]; exact Nat.div_le_self _ _
      have b6:n≤m:=aY.out
      obtain ⟨u2,hu2⟩:∃ q',u0+q*u1=q':=⟨_,rfl⟩
      obtain ⟨v2,hv2⟩:∃ q',v0+q*v1=q':=⟨_,rfl⟩
      rw [hu2,hv2] at aH
      rw [hv2] at aT
      rw [hv2] at a1
      rw [hu2] at a2
      obtain ⟨pu,hpu⟩:∃ p,q*u1=p:=⟨_,rfl⟩
      obtain ⟨pv,hpv⟩:∃ p,q*v1=p:=⟨_,rfl⟩
      rw [hpv] at a3 hv2
      rw [hpu] at a4 hu2
      obtain ⟨M,hM⟩:∃ z:Int,(m1:Int)=z:=⟨_,rfl⟩
      obtain ⟨N,hN⟩:∃ z:Int,(n1:Int)=z:=⟨_,rfl⟩
      obtain ⟨Q,hQ⟩:∃ z:Int,(q:Int)=z:=⟨_,rfl⟩
      obtain ⟨R,hR⟩:∃ z:Int,(r:Int)=z:=⟨_,rfl⟩
      obtain ⟨U0,hU0⟩:∃ z:Int,(u0:Int)=z:=⟨_,rfl⟩
      obtain ⟨V0,hV0⟩:∃ z:Int,(v0:Int)=z:=⟨_,rfl⟩
      obtain ⟨U1,hU1⟩:∃ z:Int,(u1:Int)=z:=⟨_,rfl⟩
      obtain ⟨V1,hV1⟩:∃ z:Int,(v1:Int)=z:=⟨_,rfl⟩
      obtain ⟨PU,hPU⟩:∃ z:Int,(pu:Int)=z:=⟨_,rfl⟩
      obtain ⟨PV,hPV⟩:∃ z:Int,(pv:Int)=z:=⟨_,rfl⟩
      obtain ⟨U2,hU2⟩:∃ z:Int,(u2:Int)=z:=⟨_,rfl⟩
      obtain ⟨V2,hV2⟩:∃ z:Int,(v2:Int)=z:=⟨_,rfl⟩
      rw [hM,hN]
      obtain ⟨p0,p1⟩:=H0.out.cells
      obtain ⟨q0,q1⟩:=H1.out.cells
      have hP0:(0:Int) < N:=by omega
      have e1:M / N=Q:=by rw [←hM,←hN,nat_div_int,hq,hQ]
      have e2:M % N=R:=by rw [←hM,←hN,nat_mod_int,hr,hR]
      have e3:IntKind.u64.wrap (Q*U1)=PU:=by rw [←hQ,←hU1,←Int.natCast_mul,hpu,hPU,wu64]; omega
      have e4:IntKind.u64.wrap (Q*V1)=PV:=by rw [←hQ,←hV1,←Int.natCast_mul,hpv,hPV,wu64]; omega
      have e5:IntKind.u64.wrap (U0+PU)=U2:=by rw [wu64]; omega
      have e6:IntKind.u64.wrap (V0+PV)=V2:=by rw [wu64]; omega
      have e7:IntKind.u64.wrap (N - R)=N - R:=by rw [wu64]; omega
      have g1:0≤M∧M < 18446744073709551616:=by omega
      have g2:0≤N∧N < 18446744073709551616:=by omega
      have g3:0≤Q∧Q < 18446744073709551616:=by omega
      have g4:0≤R∧R < 18446744073709551616:=by omega
      obtain ⟨g1a,g1b⟩:=g1
      obtain ⟨g2a,g2b⟩:=g2
      obtain ⟨g3a,g3b⟩:=g3
      obtain ⟨g4a,g4b⟩:=g4
      have aB:=hJ hV2
      have HR:=hJ hR
      have aC:=hJ hV1
      have HN:=hJ hN
      have bD:=hJ hU2
      have aK:=hJ hU1
      have aU:=hJ hU0
      have aV:=hJ hV0
      rw [hU0,hV0] at H0
      rw [hU1,hV1] at H1
      have hwr:w.heap.size+1 < wr.heap.size:=H1.out.lt
      clear hM hN hQ hR hU0 hV0 hU1 hV1 hPU hPV hU2 hV2 hq hr hpu hpv hu2 hv2 a1 a2 a3 a4 b1 b2 b3 b4 b5 b6 hn0 aI
      go_wp2
      go_quiet (fail)
      have H0d:=hJ (show P2 228 (wr.drewN nq) w.heap.size (.int .u64 U0) (.int .u64 V0) from H0.out)
      have H1d:=hJ (show P2 228 (wr.drewN nq) (w.heap.size+1) (.int .u64 U1) (.int .u64 V1) from H1.out)
      have aL:=hJ (show Below w.heap.size w (wr.drewN nq) from drawn aO.out nq)
      obtain ⟨wd,hwd⟩:∃ x,wr.drewN nq=x:=⟨_,rfl⟩
      rw [hwd] at H0d H1d aL ⊢
      clear hwd p0 p1 q0 q1
      obtain ⟨x9,aD⟩:∃ x,wd.alloc (.cells #[.int .u64 U2,.int .u64 V2] 228)=x:=⟨_,rfl⟩
      have H09:=hJ (show P2 228 x9 w.heap.size (.int .u64 U0) (.int .u64 V0) by rw [←aD]; exact H0d.out.alloc _)
      have H19:=hJ (show P2 228 x9 (w.heap.size+1) (.int .u64 U1) (.int .u64 V1) by rw [←aD]; exact H1d.out.alloc _)
      have H99:=hJ (show P2 228 x9 wd.heap.size (.int .u64 U2) (.int .u64 V2) by rw [←aD]; exact P2.lit wd _ _ _)
      have aM:=hJ (show Below w.heap.size w x9 by rw [←aD]; exact aL.out.alloc aL.out.size _)
      obtain ⟨p0',p1'⟩:=H0d.out.cells
      obtain ⟨q0',q1'⟩:=H1d.out.cells
      obtain ⟨y0,y1⟩:=H19.out.cells
      obtain ⟨z0,z1⟩:=H99.out.cells
      by_cases hc1:R < V2
      · obtain ⟨p0,p1⟩:=H09.out.cells
        obtain ⟨q0,q1⟩:=H19.out.cells
        have f0:=H09.out.frozen 0
        have f1:=H09.out.frozen 1
        have g0:=H19.out.frozen 0
        have g1:=H19.out.frozen 1
        go_wp2
        go_region
        all_goals
          go_wp2
          refine bodyPost_ret (results_cell3 rfl _ _ _ _ _ _ _ _ _ _ _ _ rfl rfl ((H09.out.all _ _).far2 (show w.heap.size≠w.heap.size+1 by omega) _ _) ((H19.out.far2 (show w.heap.size+1≠w.heap.size by omega) _ _).all _ _) Tryz.underlying228 rfl row_size Tryz.underlying228 rfl row_size) rfl ?_
          exact ⟨⟨m1,_,u0,v0,u1,v1,odd,A,B,aA.out,by rw [aU.out,aV.out,aK.out,aC.out]; rfl⟩,(below_box (below_box aM.out (Nat.le_refl _) _ _) (Nat.le_succ _) _ _).drew⟩
      · have e8:IntKind.u64.wrap (V1+V2)=V1+V2:=by
          have:=aT.out (by have:=aB.out; have:=HR.out; omega)
          have:=aB.out
          have:=aC.out
          rw [wu64]; omega
        by_cases hc2:N - R < V1+V2
        · obtain ⟨p0,p1⟩:=H09.out.cells
          obtain ⟨q0,q1⟩:=H19.out.cells
          have f0:=H09.out.frozen 0
          have f1:=H09.out.frozen 1
          have g0:=H19.out.frozen 0
          have g1:=H19.out.frozen 1
          go_wp2
          go_region
          all_goals
            go_wp2
            refine bodyPost_ret (results_cell3 rfl _ _ _ _ _ _ _ _ _ _ _ _ rfl rfl ((H09.out.all _ _).far2 (show w.heap.size≠w.heap.size+1 by omega) _ _) ((H19.out.far2 (show w.heap.size+1≠w.heap.size by omega) _ _).all _ _) Tryz.underlying228 rfl row_size Tryz.underlying228 rfl row_size) rfl ?_
            exact ⟨⟨m1,_,u0,v0,u1,v1,odd,A,B,aA.out,by rw [aU.out,aV.out,aK.out,aC.out]; rfl⟩,(below_box (below_box aM.out (Nat.le_refl _) _ _) (Nat.le_succ _) _ _).drew⟩
        · have hlt:=H1d.out.lt
          have hn1:¬ w.heap.size=wd.heap.size:=by omega
          have hn2:¬ w.heap.size+1=wd.heap.size:=by omega
          have hn3:¬ wd.heap.size=w.heap.size:=by omega
          have hn4:¬ wd.heap.size=w.heap.size+1:=by omega
          have bE:=hJ (aH.out (by have:=aB.out; have:=HR.out; omega) (by have:=aB.out; have:=HR.out; have:=aC.out; have:=HN.out; omega))
          obtain ⟨p0,p1⟩:=H09.out.cells
          have f0:=H09.out.frozen 0
          have f1:=H09.out.frozen 1
          have g0:=H19.out.frozen 0
          have g1:=H19.out.frozen 1
          go_wp2
          go_region
          all_goals
            go_wp2
            go_roundw
            case rel=>exact ⟨n1,r,u1,v1,u2,v2, !odd,B,A % B,by rw [HN.out],by rw [HR.out],rfl,Nat.le_trans aR.out bC.out,bE.out.1,by rw [aK.out,aC.out]; exact ((H09.out.all _ _).far2 (show w.heap.size≠w.heap.size+1 by omega) _ _),by rw [bD.out,aB.out]; exact ((H19.out.far2 (show w.heap.size+1≠w.heap.size by omega) _ _).all _ _),(below_box (below_box aM.out (Nat.le_refl _) _ _) (Nat.le_succ _) _ _).drew⟩
            case measure=>simp [intOf]; have:=aJ.out; have:=HR.out; have:=HN.out; omega
end Go.Proofs.YtdgicnhadecldaaGreat

namespace Go.Proofs.YtdgicnhadecldaaGreat
set_option maxRecDepth 100000
set_option maxHeartbeats 12800000
open Go.RowKit
attribute [local go_sem ↓] Go.wp_at_zero Go.wp_at_succ
theorem comb_step {B v Mb Pa c1 c2 bor Bk d y q x p c1' c2' bor' d1 d2:Nat} (h:v+Mb+Bk*c1=Pa+Bk*(c2+bor)) (e1:x*p+c1=d1+B*c1') (e2:y*q+c2=d2+B*c2') (e3:d+d2+bor=d1+B*bor') :
    v+Bk*d+(Mb+Bk*(y*q))+Bk*B*c1'=Pa+Bk*(x*p)+Bk*B*(c2'+bor'):=by
  have f1:=congrArg (Bk * ·) e1
  have f2:=congrArg (Bk * ·) e2
  have f3:=congrArg (Bk * ·) e3
  simp only [Nat.mul_add,←Nat.mul_assoc] at f1 f2 f3 h ⊢
  generalize Bk*x*p=a1 at *
  generalize Bk*y*q=a2 at *
  omega
theorem comb_done {B k v r c g:Nat} (hv:v < B ^ k) (hr:r < B ^ k) (h:v+B ^ k*c=r+B ^ k*g):v=r:=by
  have h1:(v+B ^ k*c) % B ^ k=v:=by rw [Nat.add_mul_mod_self_left,Nat.mod_eq_of_lt hv]
  have h2:(r+B ^ k*g) % B ^ k=r:=by rw [Nat.add_mul_mod_self_left,Nat.mod_eq_of_lt hr]
  rw [←h1,h,h2]
theorem mul_div_mod (x f q:Nat):x*f+q=(x*f+q) % 4294967296+4294967296*((x*f+q) / 4294967296):=(Nat.mod_add_div _ _).symm
theorem bs {a b c:World} (h1:Below a.heap.size a b) (h2:Below b.heap.size b c):Below a.heap.size a c:=h1.trans (h2.mono h1.size)
/-- What a function returns that returns a trimmed number. -/
def RetT (r:Nat) (w:World) (e:Ending) (w':World):Prop:=∃ A n c,e=.returned (.slice A n c)∧LI .u32 w' (.slice A n c) (digs 4294967296 r)∧(digs 4294967296 r).length=n∧Below w.heap.size w w'
theorem combined_any (x y p q r:Nat) (A A':Option Addr) (n n' c c':Nat) (w:World) (hx:LI .u32 w (.slice A n c) (digs 4294967296 x)) (hy:LI .u32 w (.slice A' n' c') (digs 4294967296 y)) (hn:n≤900000) (hn':n'≤900000) (hp:p < 4294967296) (hq:q < 4294967296) (h:x*p=r+y*q) (hr:r≤x∨r≤y) :
    Calls Tryz.prog 180 #[.slice A n c,.int .u64 (p:Int),.slice A' n' c',.int .u64 (q:Int)] w (RetT r w):=by
  obtain ⟨i0,hi0,hz0,hz1,hz2⟩:=info_parts w32_info
  obtain ⟨la,hla⟩:∃ l,digs 4294967296 x=l:=⟨_,rfl⟩
  obtain ⟨lb,hlb⟩:∃ l,digs 4294967296 y=l:=⟨_,rfl⟩
  have aU:=hJ (show val 4294967296 la=x by rw [←hla]; exact val_digs (by decide) x)
  have aV:=hJ (show val 4294967296 lb=y by rw [←hlb]; exact val_digs (by decide) y)
  have aW:=hJ (show Dig 4294967296 la by rw [←hla]; exact dig_digs (by decide) x)
  have aX:=hJ (show Dig 4294967296 lb by rw [←hlb]; exact dig_digs (by decide) y)
  rw [hla] at hx
  rw [hlb] at hy
  have HX:=hJ hx
  have HY:=hJ hy
  have HN:=hJ hx.len.1
  have aY:=hJ hy.len.1
  have HE:=hJ h
  obtain ⟨M,hM⟩:∃ M,max n n'=M:=⟨_,rfl⟩
  have hM1:n≤M:=by omega
  have hM2:n'≤M:=by omega
  have hM3:M≤900000:=by omega
  have hcase:(n'≤n∧M≤n)∨(n < n'∧M≤n'):=by omega
  have bV:=hJ (show r < 4294967296 ^ M by
    have h1:x < 4294967296 ^ M:=by
      have:=val_lt (B:=4294967296) (by decide) aW.out
      rw [aU.out,HN.out] at this
      exact Nat.lt_of_lt_of_le this (Nat.pow_le_pow_right (by decide) hM1)
    have h2:y < 4294967296 ^ M:=by
      have:=val_lt (B:=4294967296) (by decide) aX.out
      rw [aV.out,aY.out] at this
      exact Nat.lt_of_lt_of_le this (Nat.pow_le_pow_right (by decide) hM2)
    omega)
  obtain ⟨P,hP⟩:∃ X:Int,(p:Int)=X:=⟨_,rfl⟩
  obtain ⟨Q,hQ⟩:∃ X:Int,(q:Int)=X:=⟨_,rfl⟩
  rw [hP,hQ]
  have bW:=hJ hP
  have bX:=hJ hQ
  have aZ:=hJ hp
  have bA:=hJ hq
  have hP1:0≤P:=by omega
  have hP2:P < 4294967296:=by omega
  have hQ1:0≤Q:=by omega
  have hQ2:Q < 4294967296:=by omega
  clear hx hy hla hlb h hr hM hP hQ hp hq
  rcases hcase with ⟨hc1,hc2⟩ | ⟨hc1,hc2⟩
  all_goals
    go_enter Tryz.func180,Tryz.ntmps180
    go_wp2_with (at_make; refine wpList_make_blk _ rfl _ _ 31 rfl 183 i0 .u32 4 Tryz.underlying31 hi0 hz0 hz1 hz2 M _ rfl rfl (by omega) (by decide) (by omega) ?_; intro w2 hblk hb2)
    refine (multiplying_any P w2).mono ?_
    rintro e w3 ⟨rfl,hw3⟩
    go_wp2_with fail
    refine (multiplying_any Q w3).mono ?_
    rintro e w4 ⟨rfl,hw4⟩
    go_wp2_with fail
    refine (subtracting_any w4).mono ?_
    rintro e w5 ⟨rfl,hw5⟩
    obtain ⟨G,hG⟩:∃ G,w.heap.size=G:=⟨_,rfl⟩
    rw [hG] at hblk hb2 ⊢
    obtain ⟨C,hC⟩:∃ C,w2.heap.size=C:=⟨_,rfl⟩
    have hC3:w3.heap.size=C+1+1:=by rw [←hw3,←hC]; simp
    have hC4:w4.heap.size=C+1+1+1+1:=by rw [←hw4]; simp [hC3]
    rw [hC,hC3,hC4]
    have HG:=hJ hG
    have hGC:G < C:=by rw [←hC]; exact hblk.lt
    have k23:Below w2.heap.size w2 w3:=by rw [←hw3]; exact ((Below.refl _ _).alloc (Nat.le_refl _) _).alloc (by simp) _
    have k34:Below w3.heap.size w3 w4:=by rw [←hw4]; exact ((Below.refl _ _).alloc (Nat.le_refl _) _).alloc (by simp) _
    have k45:Below w4.heap.size w4 w5:=by rw [←hw5]; exact (Below.refl _ _).alloc (Nat.le_refl _) _
    have aB:=hJ (show Boxed w5 C 183 (.int .u32 (p:Int)) by
      have h3:Boxed w3 C 183 (.int .u32 P):=by rw [←hw3,←hC]; exact (Boxed.new _ _ _).alloc _
      rw [bW.out]
      exact bx_new (bx_new h3 k34) k45)
    have aC:=hJ (show Boxed w5 (C+1) 170 (.int .u64 ((0:Nat):Int)) by
      have h3:Boxed w3 (C+1) 170 (.int .u64 0):=by
        rw [←hw3,←hC]
        have:=Boxed.new (w2.alloc (.cells #[.int .u32 P] 183)) 170 (.int .u64 0)
        rw [World.size_alloc] at this
        exact this
      exact bx_new (bx_new h3 k34) k45)
    have aH:=hJ (show Boxed w5 (C+1+1) 183 (.int .u32 (q:Int)) by
      have h3:Boxed w4 (C+1+1) 183 (.int .u32 Q):=by rw [←hw4,←hC3]; exact (Boxed.new _ _ _).alloc _
      rw [bX.out]
      exact bx_new h3 k45)
    have aI:=hJ (show Boxed w5 (C+1+1+1) 170 (.int .u64 ((0:Nat):Int)) by
      have h3:Boxed w4 (C+1+1+1) 170 (.int .u64 0):=by
        rw [←hw4,←hC3]
        have:=Boxed.new (w3.alloc (.cells #[.int .u32 Q] 183)) 170 (.int .u64 0)
        rw [World.size_alloc] at this
        exact this
      exact bx_new h3 k45)
    have aJ:=hJ (show Boxed w5 (C+1+1+1+1) 170 (.int .u64 ((0:Nat):Int)) by rw [←hw5,←hC4]; exact Boxed.new _ _ _)
    have bB:=hJ (show Blk .u32 w5 G 183 (List.replicate M 0) from ((hblk.new k23).new k34).new k45)
    have bC:=hJ (show Below G w w5 from ((hb2.trans (k23.mono (Nat.le_of_lt hblk.lt))).trans (k34.mono (by omega))).trans (k45.mono (by omega)))
    clear hw3 hw4 hw5 hG hC hC3 hC4 hblk hb2 k23 k34 k45
    go_wp2_with fail
    go_loopw [29] (fun i wr=>∃ (k c1 c2 bo:Nat) (o:List Nat),k≤M∧i=.int .i64 (k:Int)∧o.length=k∧Dig 4294967296 o∧c1 < 4294967296∧c2 < 4294967296∧bo≤1∧val 4294967296 o+val 4294967296 (lb.take k)*q+4294967296 ^ k*c1=val 4294967296 (la.take k)*p+4294967296 ^ k*(c2+bo)∧Boxed wr C 183 (.int .u32 (p:Int))∧Boxed wr (C+1) 170 (.int .u64 (c1:Int))∧Boxed wr (C+1+1) 183 (.int .u32 (q:Int))∧Boxed wr (C+1+1+1) 170 (.int .u64 (c2:Int))∧Boxed wr (C+1+1+1+1) 170 (.int .u64 (bo:Int))∧Blk .u32 wr G 183 (o ++ List.replicate (M - k) 0)∧Below G w wr) (fun i _=>M - (intOf i).toNat)
    case atStart=>exact ⟨0,0,0,0,[],Nat.zero_le _,rfl,rfl,dig_nil,by omega,by omega,by omega,by simp [val],aB.out,aC.out,aH.out,aI.out,aJ.out,bB.out,bC.out⟩
    case round =>
      obtain ⟨k,k1,k2,bo,o,hk,rfl,hol,hod,hk1,hk2,hbo,hv,hf1,hc1',hf2,hc2',hbr,hblk,hbel⟩:=hrel
      have aA:=hJ hol
      have aK:=hJ hod
      have bD:=hJ hk1
      have bE:=hJ hk2
      have bF:=hJ hbo
      have HV:=hJ hv
      have aB:=hJ hf1
      have aC:=hJ hc1'
      have aH:=hJ hf2
      have aI:=hJ hc2'
      have aJ:=hJ hbr
      have bG:=hJ hblk
      have bY:=hJ hbel
      have bH:=hJ (show Below w.heap.size w wr by rw [HG.out]; exact hbel)
      clear hol hod hk1 hk2 hbo hv hf1 hc1' hf2 hc2' hbr hblk hbel bB bC
      by_cases hlt:k < M
      · have d1:=dig_getD (B:=4294967296) (by decide) aW.out k
        have d2:=dig_getD (B:=4294967296) (by decide) aX.out k
        have bJ:=hJ (val_take_succ (B:=4294967296) la k)
        have bK:=hJ (val_take_succ (B:=4294967296) lb k)
        have bL:=hJ (fun W (hb:Below w.heap.size w W)=>wordAt_any la A n c k W (HX.out.new hb) (by omega) (by omega))
        have bM:=hJ (fun W (hb:Below w.heap.size w W)=>wordAt_any lb A' n' c' k W (HY.out.new hb) (by omega) (by omega))
        generalize la.getD k 0=x1 at d1 bJ bL
        generalize lb.getD k 0=y1 at d2 bK bM
        have aD:=hJ (fun W (h1:Boxed W C 183 (.int .u32 (p:Int))) (h2:Boxed W (C+1) 170 (.int .u64 (k1:Int)))=>multiplying1_any x1 0 p k1 C (C+1) W d1 (by decide) aZ.out bD.out h1 h2)
        have aG:=hJ (fun W (h1:Boxed W (C+1+1) 183 (.int .u32 (q:Int))) (h2:Boxed W (C+1+1+1) 170 (.int .u64 (k2:Int)))=>multiplying1_any y1 0 q k2 (C+1+1) (C+1+1+1) W d2 (by decide) bA.out bE.out h1 h2)
        rw [Nat.add_zero (x1*p),show ((0:Nat):Int)=0 from rfl] at aD
        rw [Nat.add_zero (y1*q),show ((0:Nat):Int)=0 from rfl] at aG
        have aL:=hJ (mul_div_mod x1 p k1)
        have aM:=hJ (mul_div_mod y1 q k2)
        have bN:=hJ (show (x1*p+k1) / 4294967296 < 4294967296 by have:=mulc_lt (y:=0) d1 (by decide) aZ.out bD.out; rwa [Nat.add_zero (x1*p)] at this)
        have bO:=hJ (show (y1*q+k2) / 4294967296 < 4294967296 by have:=mulc_lt (y:=0) d2 (by decide) bA.out bE.out; rwa [Nat.add_zero (y1*q)] at this)
        have aO:=hJ (show (x1*p+k1) % 4294967296 < 4294967296 from Nat.mod_lt _ (by decide))
        have aR:=hJ (show (y1*q+k2) % 4294967296 < 4294967296 from Nat.mod_lt _ (by decide))
        obtain ⟨D1,hD1⟩:∃ d,(x1*p+k1) % 4294967296=d:=⟨_,rfl⟩
        obtain ⟨D2,hD2⟩:∃ d,(y1*q+k2) % 4294967296=d:=⟨_,rfl⟩
        obtain ⟨K1,hK1⟩:∃ d,(x1*p+k1) / 4294967296=d:=⟨_,rfl⟩
        obtain ⟨K2,hK2⟩:∃ d,(y1*q+k2) / 4294967296=d:=⟨_,rfl⟩
        rw [hD1] at aD aL aO
        rw [hD2] at aG aM aR
        rw [hK1] at aD aL bN
        rw [hK2] at aG aM bO
        have aS:=hJ (fun W (h1:Boxed W (C+1+1+1+1) 170 (.int .u64 (bo:Int)))=>subtracting1_any D1 D2 bo (C+1+1+1+1) W aO.out aR.out bF.out h1)
        have aT:=hJ (sb_eq (x:=D1) aR.out bF.out)
        have bP:=hJ (sle_lt (x:=D1) (y:=D2) (q:=bo) aO.out)
        have bQ:=hJ (sbo_le D1 D2 bo)
        obtain ⟨d,hd⟩:∃ d,sle D1 D2 bo=d:=⟨_,rfl⟩
        obtain ⟨b3,hb3⟩:∃ d,sbo D1 D2 bo=d:=⟨_,rfl⟩
        rw [hd] at aS aT bP
        rw [hb3] at aS aT bQ
        have bZ:=hJ (comb_step HV.out aL.out aM.out aT.out)
        have HR:=hJ (show List.replicate (M - k) 0=0 :: List.replicate (M - (k+1)) 0 by rw [show M - k=(M - (k+1))+1 by omega]; rfl)
        clear hD1 hD2 hK1 hK2 hd hb3 d1 d2
        go_wp2_with fail
        refine (bL.out wr bH.out).mono ?_
        rintro e w' ⟨rfl,rfl⟩
        go_wp2_with fail
        refine (aD.out wr aB.out aC.out).mono ?_
        rintro e w6 ⟨rfl,hw6⟩
        have bR:=hJ (show Below G w w6 by rw [←hw6]; exact bY.out.setCell (p:=⟨C+1,0,none⟩) (by show G≤C+1; omega) _)
        have cA:=hJ (show Below w.heap.size w w6 by rw [HG.out]; exact bR.out)
        have hn1:∀ j,j≠C+1→∀ {t v},Boxed wr j t v→Boxed w6 j t v:=fun j hj {t v} h=>by rw [←hw6]; exact bx_far h (p:=⟨C+1,0,none⟩) hj _
        have cB:=hJ (hn1 _ (by omega) aB.out)
        have bS:=hJ (hn1 _ (by omega) aH.out)
        have bT:=hJ (hn1 _ (by omega) aI.out)
        have cC:=hJ (hn1 _ (by omega) aJ.out)
        have cD:=hJ (show Boxed w6 (C+1) 170 (.int .u64 (K1:Int)) by rw [←hw6]; exact aC.out.set _)
        have cE:=hJ (show Blk .u32 w6 G 183 (o ++ List.replicate (M - k) 0) by rw [←hw6]; exact bG.out.far (by show G≠C+1; omega) _)
        clear hw6 hn1
        go_wp2_with fail
        refine (bM.out w6 cA.out).mono ?_
        rintro e w' ⟨rfl,rfl⟩
        go_wp2_with fail
        refine (aG.out w6 bS.out bT.out).mono ?_
        rintro e w7 ⟨rfl,hw7⟩
        have cF:=hJ (show Below G w w7 by rw [←hw7]; exact bR.out.setCell (p:=⟨C+1+1+1,0,none⟩) (by show G≤C+1+1+1; omega) _)
        have hn1:∀ j,j≠C+1+1+1→∀ {t v},Boxed w6 j t v→Boxed w7 j t v:=fun j hj {t v} h=>by rw [←hw7]; exact bx_far h (p:=⟨C+1+1+1,0,none⟩) hj _
        have cG:=hJ (hn1 _ (by omega) cB.out)
        have cH:=hJ (hn1 _ (by omega) bS.out)
        have cI:=hJ (hn1 _ (by omega) cD.out)
        have bU:=hJ (hn1 _ (by omega) cC.out)
        have cJ:=hJ (show Boxed w7 (C+1+1+1) 170 (.int .u64 (K2:Int)) by rw [←hw7]; exact bT.out.set _)
        have cK:=hJ (show Blk .u32 w7 G 183 (o ++ List.replicate (M - k) 0) by rw [←hw7]; exact cE.out.far (by show G≠C+1+1+1; omega) _)
        clear hw7 hn1
        go_wp2_with fail
        refine (aS.out w7 bU.out).mono ?_
        rintro e w8 ⟨rfl,hw8⟩
        have cL:=hJ (show Below G w w8 by rw [←hw8]; exact cF.out.setCell (p:=⟨C+1+1+1+1,0,none⟩) (by show G≤C+1+1+1+1; omega) _)
        have hn1:∀ j,j≠C+1+1+1+1→∀ {t v},Boxed w7 j t v→Boxed w8 j t v:=fun j hj {t v} h=>by rw [←hw8]; exact bx_far h (p:=⟨C+1+1+1+1,0,none⟩) hj _
        have cM:=hJ (hn1 _ (by omega) cG.out)
        have cN:=hJ (hn1 _ (by omega) cH.out)
        have cO:=hJ (hn1 _ (by omega) cI.out)
        have cP:=hJ (hn1 _ (by omega) cJ.out)
        have cQ:=hJ (show Boxed w8 (C+1+1+1+1) 170 (.int .u64 (b3:Int)) by rw [←hw8]; exact bU.out.set _)
        have hk8:Blk .u32 w8 G 183 (o ++ (0 :: List.replicate (M - (k+1)) 0)):=by rw [←hw8,←HR.out]; exact cK.out.far (by show G≠C+1+1+1+1; omega) _
        have hlen:(o ++ (0 :: List.replicate (M - (k+1)) 0)).length=M:=by rw [List.length_append,aA.out,List.length_cons,List.length_replicate]; omega
        have hcell:=hk8.cell (i:=k) (by omega)
        have hfr:=hk8.frozen k
        have cR:=hJ (hk8.set_ k d)
        have cS:=hJ (set_at o (List.replicate (M - (k+1)) 0) 0 d aA.out)
        rw [getD_at o _ 0 aA.out] at hcell
        clear hw8 hn1 hk8 hlen
        go_wp2
        go_roundw
        case rel =>
          refine ⟨k+1,K1,K2,b3,o ++ [d],by omega,by go_num,by rw [List.length_append,aA.out]; rfl,dig_snoc aK.out bP.out,bN.out,bO.out,bQ.out,?_,?_,?_,?_,?_,?_,?_,?_⟩
          · rw [bJ.out,bK.out,val_snoc,aA.out,Nat.pow_succ,Nat.add_mul,Nat.add_mul,Nat.mul_assoc _ y1 q,Nat.mul_assoc _ x1 p]
            exact bZ.out
          · exact bx_far cM.out (p:=⟨G,k,none⟩) (by show C≠G; omega) _
          · exact bx_far cO.out (p:=⟨G,k,none⟩) (by show C+1≠G; omega) _
          · exact bx_far cN.out (p:=⟨G,k,none⟩) (by show C+1+1≠G; omega) _
          · exact bx_far cP.out (p:=⟨G,k,none⟩) (by show C+1+1+1≠G; omega) _
          · exact bx_far cQ.out (p:=⟨G,k,none⟩) (by show C+1+1+1+1≠G; omega) _
          · have:=cR.out
            rw [cS.out] at this
            exact this
          · exact cL.out.setCell (p:=⟨G,k,none⟩) (Nat.le_refl _) _
        case measure=>simp [intOf]; omega
      · obtain rfl:k=M:=by omega
        have hb:=bG.out
        rw [Nat.sub_self,List.replicate_zero,List.append_nil] at hb
        have cT:=hJ (show val 4294967296 o=r by
          have h1:=HV.out
          rw [val_take_all (l:=la) (by rw [HN.out]; exact hM1),val_take_all (l:=lb) (by rw [aY.out]; exact hM2),aU.out,aV.out,HE.out] at h1
          refine comb_done (B:=4294967296) (k:=k) (c:=k1) (g:=k2+bo) ?_ bV.out (by omega)
          have:=val_lt (B:=4294967296) (by decide) aK.out
          rwa [aA.out] at this)
        have cU:=hJ (hb.li0 aA.out (Nat.le_refl _)).weak
        clear hb
        go_wp2_with fail
        refine (trimmed_ok (fun _=>True) o _ k k wr aK.out cU.out (by omega)).mono ?_
        rw [cT.out]
        rintro e w6 ⟨⟨m,rfl,hlo,hlm,_,_⟩,rfl⟩
        have cV:=hJ hlo
        have cW:=hJ hlm
        clear hlo hlm
        go_wp2
        go_ret
        exact ⟨_,m,k,rfl,cV.out,cW.out,bH.out⟩
end Go.Proofs.YtdgicnhadecldaaGreat

namespace Go.Proofs.YtdgicnhadecldaaGreat
set_option maxRecDepth 100000
set_option maxHeartbeats 12800000
open Go.RowKit
attribute [local go_sem ↓] Go.wp_at_zero Go.wp_at_succ
/-- What reduced returns. -/
def RetG (x y:Nat) (w:World) (e:Ending) (w':World):Prop:=∃ (X Y:Nat) (A1:Option Addr) (n1 c1:Nat) (A2:Option Addr) (n2 c2:Nat),e=.returned (.tuple #[.slice A1 n1 c1,.slice A2 n2 c2])∧LI .u32 w' (.slice A1 n1 c1) (digs 4294967296 X)∧LI .u32 w' (.slice A2 n2 c2) (digs 4294967296 Y)∧Y < y∧Y < X∧X≤x∧Nat.gcd X Y=Nat.gcd x y∧Below w.heap.size w w'
theorem RetT.le {r:Nat} {w:World} {e:Ending} {w':World} (h:RetT r w e w'):∃ A n c,e=.returned (.slice A n c)∧LI .u32 w' (.slice A n c) (digs 4294967296 r)∧Below w.heap.size w w':=by
  obtain ⟨A,n,c,h1,h2,_,h3⟩:=h
  exact ⟨A,n,c,h1,h2,h3⟩
theorem reduced_any (x y:Nat) (A A':Option Addr) (n n' c c':Nat) (w:World) (hx:LI .u32 w (.slice A n c) (digs 4294967296 x)) (hy:LI .u32 w (.slice A' n' c') (digs 4294967296 y)) (hle:y≤x) (hn:n≤200000) (h3:3≤n') :
    Calls Tryz.prog 174 #[.slice A n c,.slice A' n' c'] w (RetG x y w):=by
  have hnn:n'≤n:=by rw [←hx.len.1,←hy.len.1]; exact digs_len_mono (by decide) hle
  have HX:=hJ hx
  have HY:=hJ hy
  have aG:=hJ hle
  have aH:=hJ (show 0 < y by
    rcases Nat.eq_zero_or_pos y with e | e
    · have:=hy.len.1; rw [e,digs_zero] at this; simp at this; omega
    · exact e)
  clear hx hy hle
  go_enter Tryz.func174,Tryz.ntmps174
  go_wp2_with fail
  refine (highest_any x y A A' n c n' c' w HX.out HY.out aG.out (by omega) (by omega)).mono ?_
  rintro e w1 ⟨⟨S,hS,hlt,rfl⟩,hb1⟩
  have aM:=hJ hb1
  have aO:=hJ hlt
  have HS:=hJ hS
  obtain ⟨M,hM⟩:∃ M,x / S=M:=⟨_,rfl⟩
  obtain ⟨N,hN⟩:∃ M,y / S=M:=⟨_,rfl⟩
  have HM:=hJ hM
  have HN:=hJ hN
  rw [hM,hN]
  clear hb1 hlt hS hM hN
  go_wp2_with fail
  refine (certain_any x y S (x % S) (y % S) M N w1 (by rw [←HM.out,Nat.mul_comm]; exact (Nat.div_add_mod x S).symm) (by rw [←HN.out,Nat.mul_comm]; exact (Nat.div_add_mod y S).symm) (Nat.mod_lt _ HS.out) (Nat.mod_lt _ HS.out) aG.out (by rw [←HM.out]; exact aO.out) (by rw [←HM.out,←HN.out]; exact Nat.div_le_div_right aG.out)).mono ?_
  rintro e w2 ⟨⟨m1,n1,u0,v0,u1,v1,odd,P,Q,hcs,rfl⟩,hb2⟩
  have aJ:=hJ hcs
  have aI:=hJ (bs aM.out hb2)
  clear hcs hb2
  by_cases hu0:u0=1
  · subst hu0
    by_cases hv0:v0=0
    · subst hv0
      obtain ⟨x2,hy2⟩:∃ x,W2 228 w2 (.int .u64 1) (.int .u64 0) (.int .u64 (u1:Int)) (.int .u64 (v1:Int))=x:=⟨_,rfl⟩
      have aK:(w2.alloc (.cells #[.int .u64 1,.int .u64 0] 228)).alloc (.cells #[.int .u64 (u1:Int),.int .u64 (v1:Int)] 228)=x2:=hy2
      have HL:=hJ (show P2 228 x2 w2.heap.size (.int .u64 1) (.int .u64 0) by rw [←hy2]; exact W2_a _ _ _ _ _ _)
      have HR:=hJ (show P2 228 x2 (w2.heap.size+1) (.int .u64 (u1:Int)) (.int .u64 (v1:Int)) by rw [←hy2]; exact W2_z _ _ _ _ _ _)
      have aB:=hJ (show Below w.heap.size w x2 by rw [←hy2]; exact bs aI.out (W2_k _ _ _ _ _ _))
      obtain ⟨a0,a1⟩:=HL.out.cells
      obtain ⟨b0,b1⟩:=HR.out.cells
      clear hy2
      go_wp2_with fail
      refine (dividedp_any x y A A' n n' c c' x2 (HX.out.new aB.out) (HY.out.new aB.out) hn aH.out).mono ?_
      rintro e w3 ⟨A1,n1,c1,A2,n2,c2,rfl,_,_,hl2,_,hb3⟩
      have aL:=hJ (bs aB.out hb3)
      have aR:=hJ hl2
      have aS:=hJ (HY.out.new aL.out)
      clear hl2 hb3
      go_wp2
      go_ret2
      refine ⟨y,x % y,A',n',c',A2,n2,c2,rfl,aS.out,aR.out,Nat.mod_lt _ aH.out,Nat.mod_lt _ aH.out,aG.out,?_,aL.out⟩
      rw [Nat.gcd_comm x y,Nat.gcd_rec y x,Nat.gcd_comm]
    · have hv1:¬ ((v0:Int)=0):=by omega
      have hnn2:n'≤900000:=by omega
      have aA:=hJ (aJ.out.rows (fun h=>hv0 h.2))
      obtain ⟨x2,hy2⟩:∃ x,W2 228 w2 (.int .u64 1) (.int .u64 (v0:Int)) (.int .u64 (u1:Int)) (.int .u64 (v1:Int))=x:=⟨_,rfl⟩
      have aK:(w2.alloc (.cells #[.int .u64 1,.int .u64 (v0:Int)] 228)).alloc (.cells #[.int .u64 (u1:Int),.int .u64 (v1:Int)] 228)=x2:=hy2
      have HL:=hJ (show P2 228 x2 w2.heap.size (.int .u64 1) (.int .u64 (v0:Int)) by rw [←hy2]; exact W2_a _ _ _ _ _ _)
      have HR:=hJ (show P2 228 x2 (w2.heap.size+1) (.int .u64 (u1:Int)) (.int .u64 (v1:Int)) by rw [←hy2]; exact W2_z _ _ _ _ _ _)
      have aB:=hJ (show Below w.heap.size w x2 by rw [←hy2]; exact bs aI.out (W2_k _ _ _ _ _ _))
      obtain ⟨a0,a1⟩:=HL.out.cells
      obtain ⟨b0,b1⟩:=HR.out.cells
      clear hy2
      cases odd
      · skip
        let S:=fun w':World=>w'.cell? ⟨w2.heap.size,0,none⟩=some (.int .u64 1)∧w'.cell? ⟨w2.heap.size,1,none⟩=some (.int .u64 (v0:Int))∧w'.cell? ⟨w2.heap.size+1,0,none⟩=some (.int .u64 (u1:Int))∧w'.cell? ⟨w2.heap.size+1,1,none⟩=some (.int .u64 (v1:Int))∧Below x2.heap.size x2 w'
        have hS:∀ w',Below x2.heap.size x2 w'→S w':=fun w' hb=>⟨(HL.out.new hb).cells.1,(HL.out.new hb).cells.2,(HR.out.new hb).cells.1,(HR.out.new hb).cells.2,hb⟩
        have K1:Hid (∀ w',S w'→Calls Tryz.prog 180 #[.slice A n c,.int .u64 1,.slice A' n' c',.int .u64 (v0:Int)] w' fun e w''=>(∃ A n c,e=.returned (.slice A n c)∧Hid (LI .u32 w'' (.slice A n c) (digs 4294967296 P)))∧(Below w'.heap.size w' w''∧S w'')) :=
          hJ (fun w' h=>(combined_any x y 1 v0 P A A' n n' c c' w' ((HX.out.new aB.out).new h.2.2.2.2) ((HY.out.new aB.out).new h.2.2.2.2) (by omega) (by omega) (by have:=aA.out; omega) (by have:=aA.out; omega) (aA.out.2.2.2.2.2.2.2.2.1 rfl).1 (.inl aA.out.2.2.1)).mono (fun e w'' hr=>by
            obtain ⟨A,n,c,h1,h2,h3⟩:=RetT.le hr
            exact ⟨⟨A,n,c,h1,hJ h2⟩,h3,hS _ (bs h.2.2.2.2 h3)⟩))
        have K2:Hid (∀ w',S w'→Calls Tryz.prog 180 #[.slice A' n' c',.int .u64 (v1:Int),.slice A n c,.int .u64 (u1:Int)] w' fun e w''=>(∃ A n c,e=.returned (.slice A n c)∧Hid (LI .u32 w'' (.slice A n c) (digs 4294967296 Q)))∧(Below w'.heap.size w' w''∧S w'')) :=
          hJ (fun w' h=>(combined_any y x v1 u1 Q A' A n' n c' c w' ((HY.out.new aB.out).new h.2.2.2.2) ((HX.out.new aB.out).new h.2.2.2.2) (by omega) (by omega) (by have:=aA.out; omega) (by have:=aA.out; omega) (aA.out.2.2.2.2.2.2.2.2.1 rfl).2 (.inl (Nat.le_of_lt aA.out.1))).mono (fun e w'' hr=>by
            obtain ⟨A,n,c,h1,h2,h3⟩:=RetT.le hr
            exact ⟨⟨A,n,c,h1,hJ h2⟩,h3,hS _ (bs h.2.2.2.2 h3)⟩))
        have bR:=hS _ (Below.refl x2.heap.size x2).drew
        clear hS
        go_wp2_with fail
        go_region_held3 (fun w'=>w'.cell? ⟨w2.heap.size,0,none⟩=some (.int .u64 1)∧w'.cell? ⟨w2.heap.size,1,none⟩=some (.int .u64 (v0:Int))∧w'.cell? ⟨w2.heap.size+1,0,none⟩=some (.int .u64 (u1:Int))∧w'.cell? ⟨w2.heap.size+1,1,none⟩=some (.int .u64 (v1:Int))∧Below x2.heap.size x2 w') (first | assumption | exact bR | go_keep)
          (first | (go_at_call_of 180 (Value.int .u64 (v0:Int)); refine (K1.out _ ?_).mono ?_; assumption; rintro e w7 ⟨⟨A7,n7,c7,rfl,hr7⟩,hk7,hc'⟩) | (go_at_call_of 180 (Value.int .u64 (v1:Int)); refine (K2.out _ ?_).mono ?_; assumption; rintro e w8 ⟨⟨A8,n8,c8,rfl,hr8⟩,hk8,hc'⟩))
        all_goals
          rename_i hlast
          have aC:=hJ (bs aB.out hlast.2.2.2.2)
          have aD:=hJ (hr7.out.new hk8)
          clear hlast hk7 hk8
          go_wp2
          go_ret2
          exact ⟨P,Q,A7,n7,c7,A8,n8,c8,rfl,aD.out,hr8.out,aA.out.1,aA.out.2.1,aA.out.2.2.1,aA.out.2.2.2.1,aC.out⟩
      · skip
        let S:=fun w':World=>w'.cell? ⟨w2.heap.size,0,none⟩=some (.int .u64 1)∧w'.cell? ⟨w2.heap.size,1,none⟩=some (.int .u64 (v0:Int))∧w'.cell? ⟨w2.heap.size+1,0,none⟩=some (.int .u64 (u1:Int))∧w'.cell? ⟨w2.heap.size+1,1,none⟩=some (.int .u64 (v1:Int))∧Below x2.heap.size x2 w'
        have hS:∀ w',Below x2.heap.size x2 w'→S w':=fun w' hb=>⟨(HL.out.new hb).cells.1,(HL.out.new hb).cells.2,(HR.out.new hb).cells.1,(HR.out.new hb).cells.2,hb⟩
        have K1:Hid (∀ w',S w'→Calls Tryz.prog 180 #[.slice A' n' c',.int .u64 (v0:Int),.slice A n c,.int .u64 1] w' fun e w''=>(∃ A n c,e=.returned (.slice A n c)∧Hid (LI .u32 w'' (.slice A n c) (digs 4294967296 P)))∧(Below w'.heap.size w' w''∧S w'')) :=
          hJ (fun w' h=>(combined_any y x v0 1 P A' A n' n c' c w' ((HY.out.new aB.out).new h.2.2.2.2) ((HX.out.new aB.out).new h.2.2.2.2) (by omega) (by omega) (by have:=aA.out; omega) (by have:=aA.out; omega) (aA.out.2.2.2.2.2.2.2.2.2 rfl).1 (.inr aA.out.2.2.1)).mono (fun e w'' hr=>by
            obtain ⟨A,n,c,h1,h2,h3⟩:=RetT.le hr
            exact ⟨⟨A,n,c,h1,hJ h2⟩,h3,hS _ (bs h.2.2.2.2 h3)⟩))
        have K2:Hid (∀ w',S w'→Calls Tryz.prog 180 #[.slice A n c,.int .u64 (u1:Int),.slice A' n' c',.int .u64 (v1:Int)] w' fun e w''=>(∃ A n c,e=.returned (.slice A n c)∧Hid (LI .u32 w'' (.slice A n c) (digs 4294967296 Q)))∧(Below w'.heap.size w' w''∧S w'')) :=
          hJ (fun w' h=>(combined_any x y u1 v1 Q A A' n n' c c' w' ((HX.out.new aB.out).new h.2.2.2.2) ((HY.out.new aB.out).new h.2.2.2.2) (by omega) (by omega) (by have:=aA.out; omega) (by have:=aA.out; omega) (aA.out.2.2.2.2.2.2.2.2.2 rfl).2 (.inr (Nat.le_of_lt aA.out.1))).mono (fun e w'' hr=>by
            obtain ⟨A,n,c,h1,h2,h3⟩:=RetT.le hr
            exact ⟨⟨A,n,c,h1,hJ h2⟩,h3,hS _ (bs h.2.2.2.2 h3)⟩))
        have bR:=hS _ (Below.refl x2.heap.size x2).drew
        clear hS
        go_wp2_with fail
        go_region_held3 (fun w'=>w'.cell? ⟨w2.heap.size,0,none⟩=some (.int .u64 1)∧w'.cell? ⟨w2.heap.size,1,none⟩=some (.int .u64 (v0:Int))∧w'.cell? ⟨w2.heap.size+1,0,none⟩=some (.int .u64 (u1:Int))∧w'.cell? ⟨w2.heap.size+1,1,none⟩=some (.int .u64 (v1:Int))∧Below x2.heap.size x2 w') (first | assumption | exact bR | go_keep)
          (first | (go_at_call_of 180 (Value.int .u64 (v0:Int)); refine (K1.out _ ?_).mono ?_; assumption; rintro e w7 ⟨⟨A7,n7,c7,rfl,hr7⟩,hk7,hc'⟩) | (go_at_call_of 180 (Value.int .u64 (v1:Int)); refine (K2.out _ ?_).mono ?_; assumption; rintro e w8 ⟨⟨A8,n8,c8,rfl,hr8⟩,hk8,hc'⟩))
        all_goals
          rename_i hlast
          have aC:=hJ (bs aB.out hlast.2.2.2.2)
          have aD:=hJ (hr7.out.new hk8)
          clear hlast hk7 hk8
          go_wp2
          go_ret2
          exact ⟨P,Q,A7,n7,c7,A8,n8,c8,rfl,aD.out,hr8.out,aA.out.1,aA.out.2.1,aA.out.2.2.1,aA.out.2.2.2.1,aC.out⟩
  · have hu1:¬ ((u0:Int)=1):=by omega
    have hnn2:n'≤900000:=by omega
    have aA:=hJ (aJ.out.rows (fun h=>hu0 h.1))
    obtain ⟨x2,hy2⟩:∃ x,W2 228 w2 (.int .u64 (u0:Int)) (.int .u64 (v0:Int)) (.int .u64 (u1:Int)) (.int .u64 (v1:Int))=x:=⟨_,rfl⟩
    have aK:(w2.alloc (.cells #[.int .u64 (u0:Int),.int .u64 (v0:Int)] 228)).alloc (.cells #[.int .u64 (u1:Int),.int .u64 (v1:Int)] 228)=x2:=hy2
    have HL:=hJ (show P2 228 x2 w2.heap.size (.int .u64 (u0:Int)) (.int .u64 (v0:Int)) by rw [←hy2]; exact W2_a _ _ _ _ _ _)
    have HR:=hJ (show P2 228 x2 (w2.heap.size+1) (.int .u64 (u1:Int)) (.int .u64 (v1:Int)) by rw [←hy2]; exact W2_z _ _ _ _ _ _)
    have aB:=hJ (show Below w.heap.size w x2 by rw [←hy2]; exact bs aI.out (W2_k _ _ _ _ _ _))
    obtain ⟨a0,a1⟩:=HL.out.cells
    obtain ⟨b0,b1⟩:=HR.out.cells
    clear hy2
    cases odd
    · skip
      let S:=fun w':World=>w'.cell? ⟨w2.heap.size,0,none⟩=some (.int .u64 (u0:Int))∧w'.cell? ⟨w2.heap.size,1,none⟩=some (.int .u64 (v0:Int))∧w'.cell? ⟨w2.heap.size+1,0,none⟩=some (.int .u64 (u1:Int))∧w'.cell? ⟨w2.heap.size+1,1,none⟩=some (.int .u64 (v1:Int))∧Below x2.heap.size x2 w'
      have hS:∀ w',Below x2.heap.size x2 w'→S w':=fun w' hb=>⟨(HL.out.new hb).cells.1,(HL.out.new hb).cells.2,(HR.out.new hb).cells.1,(HR.out.new hb).cells.2,hb⟩
      have K1:Hid (∀ w',S w'→Calls Tryz.prog 180 #[.slice A n c,.int .u64 (u0:Int),.slice A' n' c',.int .u64 (v0:Int)] w' fun e w''=>(∃ A n c,e=.returned (.slice A n c)∧Hid (LI .u32 w'' (.slice A n c) (digs 4294967296 P)))∧(Below w'.heap.size w' w''∧S w'')) :=
        hJ (fun w' h=>(combined_any x y u0 v0 P A A' n n' c c' w' ((HX.out.new aB.out).new h.2.2.2.2) ((HY.out.new aB.out).new h.2.2.2.2) (by omega) (by omega) (by have:=aA.out; omega) (by have:=aA.out; omega) (aA.out.2.2.2.2.2.2.2.2.1 rfl).1 (.inl aA.out.2.2.1)).mono (fun e w'' hr=>by
          obtain ⟨A,n,c,h1,h2,h3⟩:=RetT.le hr
          exact ⟨⟨A,n,c,h1,hJ h2⟩,h3,hS _ (bs h.2.2.2.2 h3)⟩))
      have K2:Hid (∀ w',S w'→Calls Tryz.prog 180 #[.slice A' n' c',.int .u64 (v1:Int),.slice A n c,.int .u64 (u1:Int)] w' fun e w''=>(∃ A n c,e=.returned (.slice A n c)∧Hid (LI .u32 w'' (.slice A n c) (digs 4294967296 Q)))∧(Below w'.heap.size w' w''∧S w'')) :=
        hJ (fun w' h=>(combined_any y x v1 u1 Q A' A n' n c' c w' ((HY.out.new aB.out).new h.2.2.2.2) ((HX.out.new aB.out).new h.2.2.2.2) (by omega) (by omega) (by have:=aA.out; omega) (by have:=aA.out; omega) (aA.out.2.2.2.2.2.2.2.2.1 rfl).2 (.inl (Nat.le_of_lt aA.out.1))).mono (fun e w'' hr=>by
          obtain ⟨A,n,c,h1,h2,h3⟩:=RetT.le hr
          exact ⟨⟨A,n,c,h1,hJ h2⟩,h3,hS _ (bs h.2.2.2.2 h3)⟩))
      have bR:=hS _ (Below.refl x2.heap.size x2).drew
      clear hS
      go_wp2_with fail
      go_region_held3 (fun w'=>w'.cell? ⟨w2.heap.size,0,none⟩=some (.int .u64 (u0:Int))∧w'.cell? ⟨w2.heap.size,1,none⟩=some (.int .u64 (v0:Int))∧w'.cell? ⟨w2.heap.size+1,0,none⟩=some (.int .u64 (u1:Int))∧w'.cell? ⟨w2.heap.size+1,1,none⟩=some (.int .u64 (v1:Int))∧Below x2.heap.size x2 w') (first | assumption | exact bR | go_keep)
        (first | (go_at_call_of 180 (Value.int .u64 (v0:Int)); refine (K1.out _ ?_).mono ?_; assumption; rintro e w7 ⟨⟨A7,n7,c7,rfl,hr7⟩,hk7,hc'⟩) | (go_at_call_of 180 (Value.int .u64 (v1:Int)); refine (K2.out _ ?_).mono ?_; assumption; rintro e w8 ⟨⟨A8,n8,c8,rfl,hr8⟩,hk8,hc'⟩))
      all_goals
        rename_i hlast
        have aC:=hJ (bs aB.out hlast.2.2.2.2)
        have aD:=hJ (hr7.out.new hk8)
        clear hlast hk7 hk8
        go_wp2
        go_ret2
        exact ⟨P,Q,A7,n7,c7,A8,n8,c8,rfl,aD.out,hr8.out,aA.out.1,aA.out.2.1,aA.out.2.2.1,aA.out.2.2.2.1,aC.out⟩
    · skip
      let S:=fun w':World=>w'.cell? ⟨w2.heap.size,0,none⟩=some (.int .u64 (u0:Int))∧w'.cell? ⟨w2.heap.size,1,none⟩=some (.int .u64 (v0:Int))∧w'.cell? ⟨w2.heap.size+1,0,none⟩=some (.int .u64 (u1:Int))∧w'.cell? ⟨w2.heap.size+1,1,none⟩=some (.int .u64 (v1:Int))∧Below x2.heap.size x2 w'
      have hS:∀ w',Below x2.heap.size x2 w'→S w':=fun w' hb=>⟨(HL.out.new hb).cells.1,(HL.out.new hb).cells.2,(HR.out.new hb).cells.1,(HR.out.new hb).cells.2,hb⟩
      have K1:Hid (∀ w',S w'→Calls Tryz.prog 180 #[.slice A' n' c',.int .u64 (v0:Int),.slice A n c,.int .u64 (u0:Int)] w' fun e w''=>(∃ A n c,e=.returned (.slice A n c)∧Hid (LI .u32 w'' (.slice A n c) (digs 4294967296 P)))∧(Below w'.heap.size w' w''∧S w'')) :=
        hJ (fun w' h=>(combined_any y x v0 u0 P A' A n' n c' c w' ((HY.out.new aB.out).new h.2.2.2.2) ((HX.out.new aB.out).new h.2.2.2.2) (by omega) (by omega) (by have:=aA.out; omega) (by have:=aA.out; omega) (aA.out.2.2.2.2.2.2.2.2.2 rfl).1 (.inr aA.out.2.2.1)).mono (fun e w'' hr=>by
          obtain ⟨A,n,c,h1,h2,h3⟩:=RetT.le hr
          exact ⟨⟨A,n,c,h1,hJ h2⟩,h3,hS _ (bs h.2.2.2.2 h3)⟩))
      have K2:Hid (∀ w',S w'→Calls Tryz.prog 180 #[.slice A n c,.int .u64 (u1:Int),.slice A' n' c',.int .u64 (v1:Int)] w' fun e w''=>(∃ A n c,e=.returned (.slice A n c)∧Hid (LI .u32 w'' (.slice A n c) (digs 4294967296 Q)))∧(Below w'.heap.size w' w''∧S w'')) :=
        hJ (fun w' h=>(combined_any x y u1 v1 Q A A' n n' c c' w' ((HX.out.new aB.out).new h.2.2.2.2) ((HY.out.new aB.out).new h.2.2.2.2) (by omega) (by omega) (by have:=aA.out; omega) (by have:=aA.out; omega) (aA.out.2.2.2.2.2.2.2.2.2 rfl).2 (.inr (Nat.le_of_lt aA.out.1))).mono (fun e w'' hr=>by
          obtain ⟨A,n,c,h1,h2,h3⟩:=RetT.le hr
          exact ⟨⟨A,n,c,h1,hJ h2⟩,h3,hS _ (bs h.2.2.2.2 h3)⟩))
      have bR:=hS _ (Below.refl x2.heap.size x2).drew
      clear hS
      go_wp2_with fail
      go_region_held3 (fun w'=>w'.cell? ⟨w2.heap.size,0,none⟩=some (.int .u64 (u0:Int))∧w'.cell? ⟨w2.heap.size,1,none⟩=some (.int .u64 (v0:Int))∧w'.cell? ⟨w2.heap.size+1,0,none⟩=some (.int .u64 (u1:Int))∧w'.cell? ⟨w2.heap.size+1,1,none⟩=some (.int .u64 (v1:Int))∧Below x2.heap.size x2 w') (first | assumption | exact bR | go_keep)
        (first | (go_at_call_of 180 (Value.int .u64 (v0:Int)); refine (K1.out _ ?_).mono ?_; assumption; rintro e w7 ⟨⟨A7,n7,c7,rfl,hr7⟩,hk7,hc'⟩) | (go_at_call_of 180 (Value.int .u64 (v1:Int)); refine (K2.out _ ?_).mono ?_; assumption; rintro e w8 ⟨⟨A8,n8,c8,rfl,hr8⟩,hk8,hc'⟩))
      all_goals
        rename_i hlast
        have aC:=hJ (bs aB.out hlast.2.2.2.2)
        have aD:=hJ (hr7.out.new hk8)
        clear hlast hk7 hk8
        go_wp2
        go_ret2
        exact ⟨P,Q,A7,n7,c7,A8,n8,c8,rfl,aD.out,hr8.out,aA.out.1,aA.out.2.1,aA.out.2.2.1,aA.out.2.2.2.1,aC.out⟩
end Go.Proofs.YtdgicnhadecldaaGreat

namespace Go.Proofs.YtdgicnhadecldaaGreat
set_option maxRecDepth 100000
set_option maxHeartbeats 12800000
open Go.RowKit
attribute [local go_sem ↓] Go.wp_at_zero Go.wp_at_succ
/-- What a function returns that returns a number, trimmed or not. -/
def RetV (v:Nat) (w:World) (e:Ending) (w':World):Prop:=∃ A n c l,e=.returned (.slice A n c)∧LI .u32 w' (.slice A n c) l∧Dig 4294967296 l∧val 4294967296 l=v∧n≤200000∧Below w.heap.size w w'
theorem digs_two {v:Nat} (h:(digs 4294967296 v).length≤2):v < 18446744073709551616:=by
  have:=digs_lt (B:=4294967296) (by decide) v
  exact Nat.lt_of_lt_of_le this (Nat.pow_le_pow_right (by decide) h)
theorem val_low {v:Nat} (h:(digs 4294967296 v).length≤2):(digs 4294967296 v).getD 0 0+4294967296*(digs 4294967296 v).getD 1 0=v:=by
  rw [val_len2 h,val_digs (by decide)]
theorem common_any (x y:Nat) (A A':Option Addr) (n n' c c':Nat) (w:World) (hx:LI .u32 w (.slice A n c) (digs 4294967296 x)) (hy:LI .u32 w (.slice A' n' c') (digs 4294967296 y)) (hn:n≤200000) (hn':n'≤200000) :
    Calls Tryz.prog 159 #[.slice A n c,.slice A' n' c'] w (RetV (Nat.gcd x y) w):=by
  have HX:=hJ hx
  have HY:=hJ hy
  clear hx hy
  have hcase:(x < y∧cmpN x y < 0)∨(y≤x∧¬ cmpN x y < 0):=by
    rcases Nat.lt_or_ge x y with h | h
    · exact .inl ⟨h,by rw [cmpN_lt h]; decide⟩
    · refine .inr ⟨h,?_⟩
      rcases Nat.eq_or_lt_of_le h with e | e
      · rw [e,cmpN_eq]; decide
      · rw [cmpN_gt e]; decide
  rcases hcase with ⟨hle,hcmp⟩ | ⟨hle,hcmp⟩
  all_goals
    have aC:=hJ hle
    go_enter Tryz.func159,Tryz.ntmps159
    go_wp2_with fail
    refine (compareWords_any x y A A' n n' c c' w HX.out HY.out (by omega) (by omega)).mono ?_
    obtain ⟨z,hz⟩:∃ z,cmpN x y=z:=⟨_,rfl⟩
    rw [hz] at hcmp ⊢
    rintro e w1 ⟨rfl,hb1⟩
    have aL:=hJ hb1
    have aM:=hJ (HX.out.new hb1)
    have aO:=hJ (HY.out.new hb1)
    clear hb1 hle hz
    go_wp2_with fail
    go_loopg [0,1] (min x y) (fun Y s0 s1 wr=>∃ (X:Nat) (A A':Option Addr) (n n' c c':Nat),s0=.slice A n c∧s1=.slice A' n' c'∧LI .u32 wr (.slice A n c) (digs 4294967296 X)∧LI .u32 wr (.slice A' n' c') (digs 4294967296 Y)∧Y≤X∧n≤200000∧n'≤200000∧Nat.gcd X Y=Nat.gcd x y∧Below w.heap.size w wr)
    case atStart =>
      first
        | exact ⟨x,A,A',n,n',c,c',rfl,rfl,aM.out,by rw [Nat.min_eq_right aC.out]; exact aO.out,by omega,hn,hn',by rw [Nat.min_eq_right aC.out],aL.out⟩
        | exact ⟨y,A',A,n',n,c',c,rfl,rfl,aO.out,by rw [Nat.min_eq_left (Nat.le_of_lt aC.out)]; exact aM.out,by omega,hn',hn,by rw [Nat.min_eq_left (Nat.le_of_lt aC.out),Nat.gcd_comm],aL.out⟩
    case round =>
      obtain ⟨X,B,B',m,m',d,d',rfl,rfl,hlx,hly,hYX,hm,hm',hg,hbel⟩:=hrel
      have aD:=hJ hlx
      have aG:=hJ hly
      have aZ:=hJ hYX
      have HG:=hJ hg
      have aH:=hJ hbel
      have hml:=hly.len.1
      have hxl:=hlx.len.1
      have aA:=hJ hml
      have aR:=hJ hxl
      clear hlx hly hYX hg hbel hml hxl
      by_cases h3:2 < m'
      · go_wp2_with fail
        refine (reduced_any X gk B B' m m' d d' wr aD.out aG.out aZ.out hm (by omega)).mono ?_
        rintro e w5 ⟨X5,Y5,A5,n5,c5,A6,n6,c6,rfl,hl5,hl6,hlt5,hlt6,hle5,hg5,hb5⟩
        have hn5:n5≤200000:=by
          have h1:=hl5.len.1
          have h2:=digs_len_mono (B:=4294967296) (by decide) hle5
          rw [h1,aR.out] at h2
          omega
        have hn6:n6≤200000:=by
          have h1:=hl6.len.1
          have h2:=digs_len_mono (B:=4294967296) (by decide) (Nat.le_of_lt hlt5)
          rw [h1,aA.out] at h2
          omega
        have bA:=hJ hl5
        have bB:=hJ hl6
        have bC:=hJ hlt5
        have bD:=hJ hlt6
        have bE:=hJ (hg5.trans HG.out)
        have aB:=hJ (bs aH.out hb5)
        clear hl5 hl6 hlt5 hlt6 hle5 hg5 hb5
        go_wp2
        go_roundg Y5
        case measure=>exact bC.out
        case rel=>exact ⟨X5,A5,A6,n5,n6,c5,c6,rfl,rfl,bA.out,bB.out,Nat.le_of_lt bD.out,hn5,hn6,bE.out,aB.out⟩
      · rcases Nat.eq_zero_or_pos m' with h0 | h0
        · subst h0
          have bF:=hJ (show X=Nat.gcd x y by
            have h1:=aA.out
            have h2:gk=0:=(digs_nil (B:=4294967296) (by decide)).1 (List.eq_nil_of_length_eq_zero h1)
            rw [←HG.out,h2,Nat.gcd_zero_right])
          go_wp2_with fail
          refine (copied_any (digs 4294967296 X) B m d wr aD.out (by omega)).mono ?_
          rintro e w5 ⟨rfl,hblk,hb5⟩
          have aI:=hJ (hblk.li0 aR.out (Nat.le_refl _)).weak
          have aB:=hJ (bs aH.out hb5)
          clear hblk hb5
          go_wp2
          go_ret
          exact ⟨_,m,m,digs 4294967296 X,rfl,aI.out,dig_digs (by decide) X,by rw [val_digs (by decide),bF.out],hm,aB.out⟩
        · have aS:=hJ (show 0 < gk by
            rcases Nat.eq_zero_or_pos gk with e | e
            · have h1:=aA.out
              rw [e,digs_zero] at h1
              simp at h1
              omega
            · exact e)
          go_wp2_with fail
          refine (dividedp_any X gk B B' m m' d d' wr aD.out aG.out hm aS.out).mono ?_
          rintro e w5 ⟨A1,n1,c1,A2,n2,c2,rfl,_,_,hl2,hl2n,hb5⟩
          have aB:=hJ (bs aH.out hb5)
          have bG:=hJ hl2
          have bH:=hJ (aG.out.new hb5)
          have aJ:=hJ (Nat.mod_lt X aS.out)
          have hn2:n2≤2:=by
            have h2:=digs_len_mono (B:=4294967296) (by decide) (Nat.le_of_lt aJ.out)
            rw [hl2n,aA.out] at h2
            omega
          have bJ:=hJ hl2n
          have bK:=hJ (val_low (v:=gk) (by rw [aA.out]; omega))
          have bL:=hJ (val_low (v:=X % gk) (by rw [bJ.out]; omega))
          have aT:=hJ (digs_two (v:=gk) (by rw [aA.out]; omega))
          clear hl2 hl2n hb5
          go_wp2_with fail
          refine (lowest_any (digs 4294967296 gk) B' m' d' w5 (dig_digs (by decide) gk) bH.out (by omega)).mono ?_
          rw [bK.out]
          rintro e w' ⟨rfl,rfl⟩
          go_wp2_with fail
          refine (lowest_any (digs 4294967296 (X % gk)) A2 n2 c2 w5 (dig_digs (by decide) _) bG.out (by omega)).mono ?_
          rw [bL.out]
          rintro e w' ⟨rfl,rfl⟩
          have aU:=hJ (show Nat.gcd gk (X % gk)=Nat.gcd x y by rw [←HG.out,Nat.gcd_comm X gk,Nat.gcd_rec gk X,Nat.gcd_comm])
          obtain ⟨R,hR⟩:∃ R,X % gk=R:=⟨_,rfl⟩
          rw [hR] at aU aJ ⊢
          clear hR
          go_wp2_with fail
          go_loopw [7,8] (fun s7 s8 wz=>∃ (p q:Nat),s7=.int .u64 (p:Int)∧s8=.int .u64 (q:Int)∧p < 18446744073709551616∧q < 18446744073709551616∧Nat.gcd p q=Nat.gcd x y∧Below w.heap.size w wz) (fun _ s8 _=>(intOf s8).toNat)
          case atStart=>exact ⟨gk,R,rfl,rfl,aT.out,Nat.lt_trans aJ.out aT.out,aU.out,aB.out⟩
          case round =>
            obtain ⟨p,q,rfl,rfl,hp,hq,hgp,hbz⟩:=hrel
            have aV:=hJ hgp
            have aW:=hJ hbz
            have bM:=hJ hp
            have aX:=hJ hq
            clear hgp hbz
            rcases Nat.eq_zero_or_pos q with h0 | h0
            · subst h0
              have bN:=hJ (show p=Nat.gcd x y by rw [←aV.out,Nat.gcd_zero_right])
              go_wp2_with fail
              refine (wordsOf_any p wr hp).mono ?_
              rintro e w7 ⟨rfl,hblk,hb7⟩
              have aI:=hJ (hblk.li0 rfl (Nat.le_refl _)).weak
              have bO:=hJ (bs aW.out hb7)
              clear hblk hb7
              go_wp2
              go_ret
              exact ⟨_,2,2,[p % 4294967296,p / 4294967296],rfl,aI.out,dig_two p bM.out,by rw [val_two,bN.out],by decide,bO.out⟩
            · have aK:=hJ (Nat.mod_lt p h0)
              have aY:=hJ (show Nat.gcd q (p % q)=Nat.gcd x y by rw [←aV.out,Nat.gcd_comm p q,Nat.gcd_rec q p,Nat.gcd_comm])
              obtain ⟨r,hr⟩:∃ r,p % q=r:=⟨_,rfl⟩
              rw [hr] at aK aY
              obtain ⟨P,hP⟩:∃ z:Int,(p:Int)=z:=⟨_,rfl⟩
              obtain ⟨Q,hQ⟩:∃ z:Int,(q:Int)=z:=⟨_,rfl⟩
              obtain ⟨T,hT⟩:∃ z:Int,(r:Int)=z:=⟨_,rfl⟩
              rw [hP,hQ]
              have e1:P % Q=T:=by rw [←hP,←hQ,nat_mod_int,hr,hT]
              have g1:0≤P:=by omega
              have g2:P < 18446744073709551616:=by omega
              have g3:0 < Q:=by omega
              have g4:Q < 18446744073709551616:=by omega
              have HQ:=hJ hQ
              have HT:=hJ hT
              clear hP hQ hT hr hp hq h0
              go_wp2
              go_quiet (fail)
              go_wp2
              go_roundw
              case rel=>exact ⟨q,r,by rw [HQ.out],by rw [HT.out,e1],aX.out,Nat.lt_trans aK.out aX.out,aY.out,drawn aW.out _⟩
              case measure=>simp [intOf]; have:=aK.out; have:=HT.out; have:=HQ.out; omega
theorem pgcd_any (x y:Int) (s s':Bool) (A A':Option Addr) (n c n' c':Nat) (w:World) (hx:PI w s A n c x) (hy:PI w s' A' n' c' y) (hn:n≤200000) (hn':n'≤200000) :
    Calls Tryz.prog 132 #[.agg #[.bool s,.slice A n c],.agg #[.bool s',.slice A' n' c']] w (RetP ((Nat.gcd x.natAbs y.natAbs:Nat):Int) w):=by
  have aB:=hJ hx.2.2
  have aC:=hJ hy.2.2
  clear hx hy
  obtain ⟨W,hW⟩:∃ W,((w.alloc (.cells #[.bool s,.slice A n c] 33)).alloc (.cells #[.bool s',.slice A' n' c'] 33)).alloc (.cells #[.bool false,.slice none 0 0] 33)=W:=⟨_,rfl⟩
  have HK:=hJ (show Below w.heap.size w W by rw [←hW]; exact W3_k _ _ _ _ _ _ _ _)
  have HA:=hJ (show P2 33 W w.heap.size (.bool s) (.slice A n c) by rw [←hW]; exact W3_a _ _ _ _ _ _ _ _)
  have HB:=hJ (show P2 33 W (w.heap.size+1) (.bool s') (.slice A' n' c') by rw [←hW]; exact W3_b _ _ _ _ _ _ _ _)
  have HZ:=hJ (show P2 33 W (w.heap.size+1+1) (.bool false) (.slice none 0 0) by rw [←hW]; exact W3_z _ _ _ _ _ _ _ _)
  obtain ⟨a0,a1⟩:=HA.out.cells
  obtain ⟨b0,b1⟩:=HB.out.cells
  go_enter Tryz.func132,Tryz.ntmps132
  go_wp2_with fail
  refine (common_any x.natAbs y.natAbs A A' n n' c c' W (aB.out.new HK.out) (aC.out.new HK.out) hn hn').mono ?_
  rintro e w1 ⟨A1,n1,c1,l,rfl,hl,hd,hv,hn1,hb1⟩
  have HL:=hJ hl
  have HD:=hJ hd
  have HV:=hJ hv
  have aD:=hJ (bs HK.out hb1)
  have aG:=hJ (HZ.out.new hb1)
  clear hl hd hv hb1 a0 a1 b0 b1
  go_wp2_with fail
  refine (signed_any false l A1 n1 c1 w1 HD.out HL.out (by omega)).mono ?_
  rw [HV.out,sgn_false]
  rintro e w2 ⟨s2,A2,n2,c2,rfl,hr2,hb2⟩
  have aH:=hJ hr2
  have aI:=hJ (bs aD.out hb2)
  have aA:=hJ (aG.out.new hb2)
  obtain ⟨z0,z1⟩:=aA.out.cells
  have f0:=aA.out.frozen 0
  have f1:=aA.out.frozen 1
  clear hr2 hb2
  go_wp2
  exact bodyPost_ret (results_cell_row rfl _ _ _ _ _ _ _ rfl (aA.out.all (.bool s2) (.slice A2 n2 c2)) Tryz.underlying33 rfl W_size) rfl (RetP.stored aH.out aA.out rfl rfl aI.out (by omega) _ _)
end Go.Proofs.YtdgicnhadecldaaGreat
