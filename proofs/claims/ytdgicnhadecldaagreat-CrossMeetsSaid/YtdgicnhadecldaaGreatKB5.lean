/- Contracts of the program's integers. Conditions: as each statement has them. -/
import Derived.Test.YtdgicnhadecldaaGreatKB3
import Derived.WalkMore
import Derived.Deep.LoopGhost
import Derived.Test.YtdgicnhadecldaaGreatKB2
import Derived.Deep.RegionHeld3
namespace Go.Proofs.YtdgicnhadecldaaGreat
set_option maxRecDepth 100000
set_option maxHeartbeats 12800000
open Go.RowKit
attribute [local go_sem ↓] Go.wp_at_zero Go.wp_at_succ

/-- What a function returns that returns the words of two numbers. -/
def RetQW (q r:Nat) (w:World) (e:Ending) (w':World):Prop:=∃ A1 n1 c1 A2 n2 c2,e=.returned (.tuple #[.slice A1 n1 c1,.slice A2 n2 c2])∧LI .u32 w' (.slice A1 n1 c1) (digs 4294967296 q)∧(digs 4294967296 q).length=n1∧LI .u32 w' (.slice A2 n2 c2) (digs 4294967296 r)∧(digs 4294967296 r).length=n2∧Below w.heap.size w w'
/-- s[j:h] of a block. -/
theorem Blk.cut {k:IntKind} {P:Program} {ty e:TypeId} {w:World} {g n c:Nat} {t:TypeId} {p s q:List Nat} (ht:P.underlying ty=some (.slice e)) (hs:∀ W,(sizeOf e).run P W=.ok 1 W) (hb:Blk k w g t (p ++ (s ++ q))) (hn:(p ++ (s ++ q)).length=n) (hc:n≤c) {j m:Nat} (hj:p.length=j) (hm:s.length=m) (hm0:0 < m) (lo hi:Int) (hlo:lo=(j:Int)) (hhi:hi=((j+m:Nat):Int)) :
    (∀ W,(Instr.slice ty (.slice (some ⟨g,0,none⟩) n c) (some (.int .i64 lo)) (some (.int .i64 hi)) none).run P W=.ok (.slice (some ⟨g,j,none⟩) m (c - j)) W)∧LO k (· = g) w (.slice (some ⟨g,j,none⟩) m (c - j)) s:=by
  have he:P.elem ty=e:=by simp [Program.elem,ht]
  have hl:j+m+q.length=n:=by rw [←hn,List.length_append,List.length_append,hj,hm,Nat.add_assoc]
  subst hlo hhi
  refine ⟨fun W=>?_,?_⟩
  · rw [run_slice_lh (ht:=by rw [ht,he]) (h0:=by omega) (h1:=by omega) (h2:=by omega),he,hs W]
    simp only [Result.andThen,sliced,Int.toNat_natCast]
    rw [if_neg (by omega),Option.map_some,Go.WideShapes.add_plain,Nat.mul_one,Nat.zero_add,Nat.add_sub_cancel_left]
  · have:=hb.li (off:=j) (n:=m) (c:=c - j) (by rw [hn]; omega) (by omega)
    rwa [←hj,List.drop_left,←hm,List.take_left,hj,hm] at this
theorem pow2_le {z:Nat} (h:z≤31):2 ^ z < 4294967296:=by
  have:=Nat.pow_le_pow_right (show 0 < 2 by decide) h
  have e:(2:Nat) ^ 31=2147483648:=by decide
  omega

theorem divided_lt (x y:Nat) (A A':Option Addr) (n n' c c':Nat) (w:World) (hx:LI .u32 w (.slice A n c) (digs 4294967296 x)) (hy:LI .u32 w (.slice A' n' c') (digs 4294967296 y)) (hn:n≤200000) (hlt:n < n') :
    Calls Tryz.prog 157 #[.slice A n c,.slice A' n' c'] w (RetQW (x / y) (x % y) w):=by
  have h1:=hx.len.1
  have hxy:=digs_len_lt (B:=4294967296) (a:=x) (b:=y) (by decide) (by rw [hx.len.1,hy.len.1]; exact hlt)
  rw [Nat.div_eq_of_lt hxy,Nat.mod_eq_of_lt hxy]
  have HX:=hJ hx
  have HL:=hJ h1
  clear hx hy hxy h1
  go_enter Tryz.func157,Tryz.ntmps157
  go_wp2_with fail
  go_step3
  go_wp2_with fail
  refine (copied_any _ A n c w HX.out (by omega)).mono ?_
  rintro e w2 ⟨rfl,hb,hbel⟩
  have HB:=hJ hb
  clear hb
  go_wp2
  rw [Exit.noGoto_ret]
  go_ret2
  exact ⟨none,0,0,some ⟨w.heap.size,0,none⟩,n,n,rfl,by rw [digs_zero]; exact LO.nil,by rw [digs_zero]; rfl,(HB.out.li0 HL.out (Nat.le_refl _)).weak,HL.out,hbel⟩

theorem divided_ge (x y:Nat) (A A':Option Addr) (n m c c':Nat) (w:World) (hx:LI .u32 w (.slice A n c) (digs 4294967296 x)) (hy:LI .u32 w (.slice A' (m+1) c') (digs 4294967296 y)) (hn:n≤200000) (hge:m+1≤n) :
    Calls Tryz.prog 157 #[.slice A n c,.slice A' (m+1) c'] w (RetQW (x / y) (x % y) w):=by
  obtain ⟨i0,hi0,hz0,hz1,hz2⟩:=info_parts w32_info
  have aS:=hJ hx.len.1
  have aT:=hJ hy.len.1
  have aL:=hJ (show 0 < y by
    rcases Nat.eq_zero_or_pos y with e | e
    · have:=hy.len.1; rw [e,digs_zero] at this; cases this
    · exact e)
  have HX:=hJ hx
  have HY:=hJ hy
  have cG:=hJ (dig_digs (B:=4294967296) (by decide) x)
  have aU:=hJ (dig_digs (B:=4294967296) (by decide) y)
  have cH:=hJ (val_digs (B:=4294967296) (by decide) x)
  have bO:=hJ (val_digs (B:=4294967296) (by decide) y)
  have cI:=hJ (show x < 4294967296 ^ n by rw [←aS.out]; exact digs_lt (by decide) x)
  have cJ:=hJ (show 4294967296 ^ m≤y by have:=digs_ge (B:=4294967296) (n:=y) (by decide) (by have:=aL.out; omega); rwa [aT.out,Nat.add_sub_cancel] at this)
  have htop:=digs_last (B:=4294967296) (n:=y) (by decide) (by have:=aL.out; omega)
  rw [aT.out,Nat.add_sub_cancel] at htop
  obtain ⟨b1,o1,rfl,hb1,hc1⟩:=hy.at_ (j:=m) (by omega)
  have htl:=dig_getD (B:=4294967296) (by decide) aU.out m
  obtain ⟨t,ht⟩:∃ t,(digs 4294967296 y).getD m 0=t:=⟨_,rfl⟩
  rw [ht] at htop htl hc1
  have HT:=hJ ht
  clear hx hy ht
  have s1:(m:Int)+1≤(n:Int):=by omega
  go_enter Tryz.func157,Tryz.ntmps157
  go_wp2_with fail
  go_step3
  go_wp2_with fail
  refine (lz32_any t w (by omega) htl).mono ?_
  rintro e w' ⟨⟨z,rfl,hz31,hz⟩,rfl⟩
  obtain ⟨f,hf⟩:∃ f:Nat,2 ^ z=f:=⟨_,rfl⟩
  have hf0:0 < f:=by rw [←hf]; exact Nat.pow_pos (by decide)
  have hfl:f < 4294967296:=by rw [←hf]; exact pow2_le hz31
  rw [hf] at hz
  have cK:=hJ hz
  clear hz
  have hsh:IntKind.u32.wrap (1*2 ^ z)=(f:Int):=by
    have e:(2:Int) ^ z=((2 ^ z:Nat):Int):=by rw [Int.natCast_pow]; rfl
    rw [e,hf,Int.one_mul]
    exact IntWalk.u32_in _ (by omega)
  have hsh2:IntKind.u32.wrap (2 ^ z)=(f:Int):=by rw [←hsh,Int.one_mul]
  clear hf
  go_wp2_with fail
  have aV:=hJ (times_any _ A n c f 0 w cG.out HX.out (by omega) hfl (by decide))
  rw [show ((0:Nat):Int)=0 from rfl] at aV
  refine aV.out.mono ?_
  rintro e w1 ⟨G1,N1,o1',rfl,hg1,hblk1,hol1,hod1,⟨hov1,hon1⟩,hb1'⟩
  have aW:=hJ hblk1
  have cL:=hJ hod1
  have cM:=hJ (show val 4294967296 o1'=x*f by rw [hov1,cH.out,Nat.add_zero])
  have aC:=hJ hb1'
  have aX:=hJ hg1
  have hN1:N1=n+1:=by omega
  subst hN1
  have cN:=hJ hol1
  clear hblk1 hod1 hov1 hb1' hg1 hol1 hon1 aV
  go_wp2_with fail
  have aY:=hJ (times_any _ _ (m+1) c' f 0 w1 aU.out (HY.out.new aC.out) (by omega) hfl (by decide))
  rw [show ((0:Nat):Int)=0 from rfl] at aY
  refine aY.out.mono ?_
  rintro e w2 ⟨G2,N2,o2',rfl,hg2,hblk2,hol2,hod2,⟨hov2,hon2⟩,hb2'⟩
  have aZ:=hJ hblk2
  have cO:=hJ hod2
  obtain ⟨V,hV⟩:∃ V,y*f=V:=⟨_,rfl⟩
  have bP:=hJ hV
  have cP:=hJ (show val 4294967296 o2'=V by rw [hov2,bO.out,Nat.add_zero,hV])
  have bA:=hJ hb2'
  have cQ:=hJ hg2
  have bQ:=hJ (aW.out.new hb2')
  have hN2:N2=m+2:=by omega
  subst hN2
  have cR:=hJ hol2
  have bR:=hJ (show V < 4294967296 ^ (m+1) by
    rw [←hV]
    exact times_top (by decide) aU.out aT.out bO.out HT.out cK.out hf0)
  have bS:=hJ (show 4294967296 ^ m*f≤V by rw [←hV]; exact Nat.mul_le_mul_right f cJ.out)
  have bT:=hJ (show 0 < V by rw [←hV]; exact Nat.mul_pos aL.out hf0)
  have cS:=hJ (show x*f < 4294967296 ^ n*f from Nat.mul_lt_mul_of_pos_right cI.out hf0)
  clear hblk2 hod2 hov2 hb2' hg2 hol2 hon2 aY hV
  go_wp2_with fail
  refine (trimmed_ok (· = G2) o2' _ (m+2) (m+2) w2 cO.out (aZ.out.li0 cR.out (Nat.le_refl _)) (by omega)).mono ?_
  rw [cP.out]
  rintro e w' ⟨⟨k2,rfl,hl2,hk2,hk2le,htk2⟩,rfl⟩
  have bB:=hJ (show (digs 4294967296 V).length=m+1 by
    have h1:=digs_len_le (B:=4294967296) (by decide) bR.out
    have h2:=digs_lt (B:=4294967296) (by decide) V
    rcases Nat.lt_or_ge (digs 4294967296 V).length (m+1) with h | h
    · have h3:=Nat.pow_le_pow_right (show 0 < 4294967296 by decide) (show (digs 4294967296 V).length≤m by omega)
      have h4:=bS.out
      have h5:=Nat.le_mul_of_pos_right (4294967296 ^ m) hf0
      omega
    · omega)
  have hk2e:k2=m+1:=by rw [←hk2]; exact bB.out
  subst hk2e
  have aB:=hJ hl2
  clear hl2 hk2 hk2le htk2
  obtain ⟨nq,hnq⟩:∃ nq,n=m+nq:=⟨n - m,by omega⟩
  have bC:=hJ hnq
  have hnq1:1≤nq:=by omega
  have hnq2:nq≤200000:=by omega
  clear hnq
  go_wp2_with (at_make; refine wpList_make_blk _ rfl _ _ 31 rfl 183 i0 .u32 4 Tryz.underlying31 hi0 hz0 hz1 hz2 nq _ rfl rfl (by have:=bC.out; omega) (by decide) (by omega) ?_; intro w3 hblk3 hb3)
  obtain ⟨G3,hG3⟩:∃ G3,w2.heap.size=G3:=⟨_,rfl⟩
  rw [hG3] at hblk3 ⊢
  have bU:=hJ hblk3
  have cT:=hJ hb3
  have bV:=hJ (bQ.out.new hb3)
  have bD:=hJ (aB.out.new hb3)
  have aH:=hJ (show G1 < G2 from Nat.lt_of_lt_of_le aW.out.lt cQ.out)
  have aI:=hJ (show G2 < G3 by rw [←hG3]; exact aZ.out.lt)
  have bW:=hJ (show Below w.heap.size w w3 from (aC.out.trans (bA.out.mono aC.out.size)).trans (hb3.mono (aC.out.trans (bA.out.mono aC.out.size)).size))
  have bE:=hJ (dig_digs (B:=4294967296) (by decide) V)
  have bF:=hJ (val_digs (B:=4294967296) (by decide) V)
  have hbt:0 < (digs 4294967296 V).getD m 0:=by
    have:=digs_last (B:=4294967296) (n:=V) (by decide) (by have:=bT.out; omega)
    rw [bB.out,Nat.add_sub_cancel] at this
    omega
  have bX:=hJ hbt
  clear hblk3 hb3 hG3 hbt hc1 hsh hsh2
  have bY:=hJ (show DivInv 4294967296 (x*f) V m (n+1) nq nq o1' (List.replicate nq 0) from
    DivInv.start (by decide) cN.out cL.out cM.out (by
      have h1:=cS.out
      have h2:=Nat.mul_le_mul_left (4294967296 ^ nq) bS.out
      rw [←Nat.mul_assoc,←Nat.pow_add,Nat.add_comm nq m,←bC.out] at h2
      omega))
  generalize digs 4294967296 V=lb at aB bB bD bE bF bX
  go_wp2
  go_step3
  go_wp2
  go_loopg [7] nq (fun g s7 wr=>∃ (z:Int) (r oq:List Nat),s7=.int .i64 z∧z=(g:Int) - 1∧g≤nq∧DivInv 4294967296 (x*f) V m (n+1) nq g r oq∧Blk .u32 wr G1 183 r∧Blk .u32 wr G3 183 oq∧LO .u32 (· = G2) wr (.slice (some ⟨G2,0,none⟩) (m+1) (m+2)) lb∧Below w.heap.size w wr)
  case atStart=>exact ⟨(nq:Int) - 1,o1',_,rfl,rfl,Nat.le_refl _,bY.out,bV.out,bU.out,bD.out,bW.out⟩
  case round =>
    clear bY bV bU bD bW aW aZ bQ aB aC bA cT HX HY
    obtain ⟨z,r,oq,rfl,hz,hgn,hdi,hbr,hbq,hlb,hbw⟩:=hrel
    have aA:=hJ hdi
    have aM:=hJ hbr
    have bG:=hJ hbq
    have aB:=hJ hlb
    have aO:=hJ hbw
    clear hdi hbr hbq hlb hbw
    cases gk with
    | zero =>
      obtain rfl:z = -1:=by omega
      clear hz
      have bZ:=hJ aA.out.done
      have cA:=hJ (div_scaled (x:=x) (y:=y) (f:=f) (q:=val 4294967296 oq) (r:=val 4294967296 r) hf0 aL.out (by rw [bP.out]; exact bZ.out.1) (by rw [bP.out]; exact bZ.out.2))
      go_wp2_with fail
      refine (shorten_any r [] G1 (n+1) (n+1) f wr (by rw [List.append_nil]; exact aM.out) aA.out.rl aA.out.rd (by omega) hf0 hfl).mono ?_
      rintro e w5 ⟨rfl,⟨r5,hrl5,hrd5,hrv5,hrb5⟩,hk5⟩
      rw [List.append_nil] at hrb5
      have cU:=hJ hrl5
      have cV:=hJ hrd5
      have cW:=hJ (show val 4294967296 r5=x % y by rw [hrv5]; exact cA.out.2.symm)
      have cX:=hJ hrb5
      have cY:=hJ (bG.out.kp hk5 (by have:=aH.out; have:=aI.out; omega))
      have cZ:=hJ (show Below w.heap.size w w5 from ((Kp.new aO.out).step hk5 (t:=fun _=>False) (fun k h1 h2=>by have:=aX.out; omega)).below_new (fun _ _ e=>e))
      clear hrl5 hrd5 hrv5 hrb5 hk5
      obtain ⟨md,hmd⟩:∃ md,val 4294967296 r % f=md:=⟨_,rfl⟩
      go_wp2_with fail
      refine (trimmed_ok (· = G3) oq _ nq nq w5 aA.out.qd (cY.out.li0 aA.out.ql (Nat.le_refl _)) (by omega)).mono ?_
      rw [←cA.out.1]
      rintro e w' ⟨⟨k6,rfl,hl6,hk6,_,_⟩,rfl⟩
      have dA:=hJ hl6
      have dB:=hJ hk6
      clear hl6 hk6
      go_wp2_with fail
      refine (trimmed_ok (· = G1) r5 _ (n+1) (n+1) w5 cV.out (cX.out.li0 cU.out (Nat.le_refl _)) (by omega)).mono ?_
      rw [cW.out]
      rintro e w' ⟨⟨k7,rfl,hl7,hk7,_,_⟩,rfl⟩
      have dD:=hJ hl7
      have dE:=hJ hk7
      clear hl7 hk7
      go_wp2
      try rw [Exit.noGoto_ret]
      go_ret2
      exact ⟨_,k6,_,_,k7,_,rfl,dA.out.weak,dB.out,dD.out.weak,dE.out,cZ.out⟩
    | succ j =>
      obtain rfl:z=(j:Int):=by omega
      clear hz
      obtain ⟨P,seg,T,hr,hP,hs,hdP,hds,hdT,hT0,hDlt,hxe⟩:=aA.out.part (by decide) bR.out (show j+(m+2)≤n+1 by have:=bC.out; omega)
      subst hr
      obtain ⟨hcut,hlseg⟩:=aM.out.cut (P:=Tryz.prog) (ty:=31) Tryz.underlying31 w32_size aA.out.rl (Nat.le_refl _) hP hs (by omega) ((j:Int)) ((j:Int)+((m:Int)+1)+1) rfl (by omega)
      have dG:=hJ hlseg
      have HP:=hJ hP
      have HS:=hJ hs
      have dH:=hJ hdP
      have bH:=hJ hds
      have dI:=hJ hdT
      have dJ:=hJ hT0
      have dK:=hJ hDlt
      have dL:=hJ hxe
      clear hlseg hP hs hdP hds hdT hT0 hDlt hxe
      have hj0:(0:Int)≤(j:Int):=by omega
      have hjq:j < nq:=by omega
      go_wp2_with fail
      refine (guess_any seg lb _ _ m _ _ wr bH.out bE.out dG.out.weak aB.out.weak (by omega) bX.out).mono ?_
      rintro e w4 ⟨⟨g0,rfl,hg0,hgq⟩,hb4⟩
      rw [bF.out] at hgq
      have cB:=hJ hg0
      have aD:=hJ hgq
      have dM:=hJ hb4
      have bJ:=hJ (aM.out.new hb4)
      have dN:=hJ (bG.out.new hb4)
      have cC:=hJ (aB.out.new hb4)
      have cD:=hJ (aO.out.trans (hb4.mono aO.out.size))
      clear hg0 hgq hb4 hcut aM bG aB aO
      go_wp2_with fail
      go_loopg [9] g0 (fun g2 s9 wy=>s9=.int .u32 (g2:Int)∧g2 < 4294967296∧(∀ q,q < 4294967296→q*V≤val 4294967296 seg→q≤g2)∧Below w4.heap.size w4 wy)
      case atStart=>exact ⟨rfl,cB.out,aD.out,Below.refl _ _⟩
      case round =>
        clear cB aD dM
        obtain ⟨rfl,hgl,hgq,hby⟩:=hrel
        have bK:=hJ hgl
        have aD:=hJ hgq
        have aR:=hJ hby
        clear hgl hgq hby
        have bL:=hJ (times_any lb _ (m+1) (m+2) gk 0 _ bE.out (cC.out.new aR.out).weak (by omega) bK.out (by decide))
        rw [show ((0:Nat):Int)=0 from rfl] at bL
        go_wp2_with fail
        refine bL.out.mono ?_
        rintro e w5 ⟨G5,N5,o5,rfl,hg5,hblk5,hol5,hod5,⟨hov5,hon5⟩,hb5⟩
        have hN5:N5=m+2:=by omega
        subst hN5
        rw [bF.out,Nat.add_zero] at hov5
        have aJ:=hJ (aR.out.trans (hb5.mono aR.out.size))
        have cE:=hJ (hblk5.li0 hol5 (Nat.le_refl (m+2)))
        have cF:=hJ hod5
        have bM:=hJ hov5
        have dO:=hJ (show G1 < G5 from Nat.lt_of_lt_of_le bJ.out.lt (Nat.le_trans aR.out.size hg5))
        clear hg5 hblk5 hol5 hod5 hov5 hon5 hb5 bL
        obtain ⟨D,hD⟩:∃ D,val 4294967296 seg=D:=⟨_,rfl⟩
        rw [hD] at aD
        have HD:=hJ hD
        obtain ⟨v,hv⟩:∃ v,cmpN (V*gk) D=v:=⟨_,rfl⟩
        have aK:=hJ (compareWords_eq o5 seg _ _ (m+2) (m+2) (n+1 - j) w5 cF.out bH.out cE.out.weak ((bJ.out.new aJ.out).cut (P:=Tryz.prog) (ty:=31) Tryz.underlying31 w32_size aA.out.rl (Nat.le_refl _) HP.out HS.out (by omega) ((j:Int)) ((j:Int)+((m:Int)+1)+1) rfl (by omega)).2.weak (by omega))
        rw [bM.out,hD,hv] at aK
        have HV:=hJ hv
        clear hD hv
        by_cases hle:V*gk≤D
        · have hv0:v≤0:=by rw [←HV.out]; unfold cmpN; split <;> (try split) <;> omega
          have bN:=hJ hle
          have dP:=hJ (show gk=D / V by
            refine (Nat.div_eq_of_lt_le (by rw [Nat.mul_comm]; exact hle) ?_).symm
            rcases Nat.lt_or_ge D ((gk+1)*V) with h | h
            · exact h
            · have h1:gk+1 < 4294967296:=by
                have h2:=dK.out
                rw [HD.out] at h2
                have h3:(gk+1)*V < 4294967296*V:=by omega
                exact Nat.lt_of_mul_lt_mul_right h3
              have:=aD.out (gk+1) h1 h
              omega)
          clear hle
          go_wp2_with fail
          refine aK.out.mono ?_
          rintro e w6 ⟨rfl,hb6⟩
          have aG:=hJ (aJ.out.trans (hb6.mono aJ.out.size))
          have dQ:=hJ (cE.out.new hb6)
          clear hb6 aK
          go_wp2_with fail
          refine (subtract_any P seg T o5 _ G1 j (m+2) (n+1 - j) (m+2) (m+2) w6 (bJ.out.new aG.out) HP.out HS.out bH.out cF.out (dQ.out.mono (fun b _ h e=>by have:=dO.out; omega)) (by omega) (by omega) (by omega) (by rw [bM.out,HD.out]; exact bN.out)).mono ?_
          rw [bM.out,HD.out]
          rintro e w7 ⟨rfl,⟨s7,hsl7,hsd7,hsv7,hsb7⟩,hk7⟩
          have dR:=hJ hsl7
          have dS:=hJ hsd7
          have dT:=hJ hsv7
          have dU:=hJ hsb7
          have hbq7:=(dN.out.new aG.out).kp hk7 (by have:=aH.out; have:=aI.out; omega)
          have dW:=hJ ((cC.out.new aG.out).kp hk7 (fun b _ h e=>by have:=aH.out; omega))
          have dX:=hJ (show Below w.heap.size w w7 from ((Kp.new (cD.out.trans (aG.out.mono cD.out.size))).step hk7 (t:=fun _=>False) (fun k h1 h2=>by have:=aX.out; omega)).below_new (fun _ _ e=>e))
          have hc7:=hbq7.cell (i:=j) (by rw [aA.out.ql]; exact hjq)
          obtain ⟨old,hold⟩:∃ old,oq.getD j 0=old:=⟨_,rfl⟩
          rw [hold] at hc7
          have hf7:=hbq7.frozen j
          have dY:=hJ (hbq7.set_ j gk)
          have aS:=hJ (aA.out.next bT.out (s':=s7) (q:=gk) rfl HP.out HS.out dR.out dH.out dI.out dS.out dJ.out bK.out (by rw [HD.out]; exact dP.out) (by rw [HD.out]; exact dT.out) dL.out hjq)
          clear hsl7 hsd7 hsv7 hsb7 hk7 hbq7 hold
          go_wp2
          go_roundg j
          case measure=>omega
          case rel =>
            refine ⟨(j:Int) - 1,P ++ (s7 ++ T),oq.set j gk,rfl,rfl,by omega,aS.out,?_,dY.out,?_,?_⟩
            · exact dU.out.far (p:=⟨G3,j,none⟩) (by have:=aH.out; have:=aI.out; show G1≠G3; omega) _
            · exact dW.out.kp (t:=(· = G3)) ((Kp.refl (· = G3) _).setCell (p:=⟨G3,j,none⟩) (fun _=>rfl) _) (fun b _ h e=>by have:=aI.out; omega)
            · exact dX.out.setCell (p:=⟨G3,j,none⟩) (by have:=aX.out; have:=aH.out; have:=aI.out; show w.heap.size≤G3; omega) _
        · have hv0:¬ v≤0:=by rw [←HV.out,cmpN,if_neg (by omega),if_pos (by omega)]; decide
          have hg1:1≤gk:=by
            rcases Nat.eq_zero_or_pos gk with h | h
            · subst h; omega
            · exact h
          have hg2:gk < 4294967296:=bK.out
          have bN:=hJ hle
          clear hle
          go_wp2_with fail
          refine aK.out.mono ?_
          rintro e w6 ⟨rfl,hb6⟩
          have aG:=hJ (aJ.out.trans (hb6.mono aJ.out.size))
          clear hb6 aK
          go_wp2
          go_roundg (gk - 1)
          case measure=>omega
          case rel =>
            refine ⟨congrArg _ (by omega),by omega,fun q hq h=>?_,aG.out⟩
            have h1:=aD.out q hq (by rw [←HD.out]; exact h)
            rcases Nat.lt_or_ge q gk with h2 | h2
            · omega
            · obtain rfl:q=gk:=by omega
              have:=bN.out
              rw [HD.out,Nat.mul_comm] at h
              omega
theorem dividedp_any (x y:Nat) (A A':Option Addr) (n n' c c':Nat) (w:World) (hx:LI .u32 w (.slice A n c) (digs 4294967296 x)) (hy:LI .u32 w (.slice A' n' c') (digs 4294967296 y)) (hn:n≤200000) (hy0:0 < y) :
    Calls Tryz.prog 157 #[.slice A n c,.slice A' n' c'] w (RetQW (x / y) (x % y) w):=by
  rcases Nat.lt_or_ge n n' with h | h
  · exact divided_lt x y A A' n n' c c' w hx hy hn h
  · have hl:=hy.len.1
    rcases Nat.eq_zero_or_pos n' with h0 | h0
    · subst h0
      have:=(digs_nil (B:=4294967296) (by decide)).1 (List.eq_nil_of_length_eq_zero hl)
      omega
    · obtain ⟨m,rfl⟩:∃ m,n'=m+1:=⟨n' - 1,by omega⟩
      exact divided_ge x y A A' n m c c' w hx hy hn h
end Go.Proofs.YtdgicnhadecldaaGreat

namespace Go.Proofs.YtdgicnhadecldaaGreat
set_option maxRecDepth 100000
set_option maxHeartbeats 12800000
open Go.RowKit
attribute [local go_sem ↓] Go.wp_at_zero Go.wp_at_succ

/-- The program's integer: a sign, and the words of the absolute value, in a block of the kind ok. -/
def PIo (ok:Nat→Prop) (w:World) (neg:Bool) (A:Option Addr) (n c:Nat) (x:Int):Prop:=(neg=decide (x < 0))∧(digs 4294967296 x.natAbs).length=n∧LO .u32 ok w (.slice A n c) (digs 4294967296 x.natAbs)
abbrev PI (w:World) (neg:Bool) (A:Option Addr) (n c:Nat) (x:Int):Prop:=PIo (fun _=>True) w neg A n c x
theorem PIo.new {ok:Nat→Prop} {w w':World} {neg:Bool} {A:Option Addr} {n c:Nat} {x:Int} (h:PIo ok w neg A n c x) (hb:Below w.heap.size w w'):PIo ok w' neg A n c x:=⟨h.1,h.2.1,h.2.2.new hb⟩
theorem PIo.eq {ok:Nat→Prop} {w:World} {neg:Bool} {A:Option Addr} {n c:Nat} {x y:Int} (h:PIo ok w neg A n c x) (e:x=y):PIo ok w neg A n c y:=e ▸ h
theorem PIo.box {ok:Nat→Prop} {w:World} {neg:Bool} {A:Option Addr} {n c:Nat} {x:Int} {t:TypeId} {B:Nat} {z0 z1:Value} (h:PIo ok w neg A n c x) (hp:P2 t w B z0 z1) (h0:isI z0=false) (h1:isI z1=false) (u0 u1:Value):PIo ok ((w.setCell ⟨B,0,none⟩ u0).setCell ⟨B,1,none⟩ u1) neg A n c x:=⟨h.1,h.2.1,h.2.2.box hp h0 h1 u0 u1⟩
theorem PI.zero (w:World):PI w false none 0 0 0:=⟨rfl,by rw [Int.natAbs_zero,digs_zero]; rfl,by rw [Int.natAbs_zero,digs_zero]; exact LO.nil⟩
/-- What a function returns that returns such an integer. -/
def RetP (x:Int) (w:World) (e:Ending) (w':World):Prop:=∃ neg A n c,e=.returned (.agg #[.bool neg,.slice A n c])∧PI w' neg A n c x∧Below w.heap.size w w'
/-- The same with an error. -/
def RetPE (x code:Int) (w:World) (e:Ending) (w':World):Prop:=∃ neg A n c,e=.returned (.tuple #[.agg #[.bool neg,.slice A n c],.int .i64 code])∧PI w' neg A n c x∧Below w.heap.size w w'
theorem W_size:(Tryz.prog.info? 33).map (·.size)=some 2:=by kernel_rfl
theorem results_cell1 {P:Program} {fn:Func} {p u:Tmp} {ty:TypeId} (h:fn.results=#[.cell p ty,.tmp u]) (tmps:Array Value) (w:World) (g:Nat) (t:TypeId) (cs:Array Value) (fr:Nat × Nat) (d:TypeDesc)
    (hp:tmps.getD p undef=.pointer (some ⟨g,0,none⟩)) (hg:w.heap[g]?=some (.cells cs t fr))
    (hu:P.underlying ty=some d) (hd:(match d with | .struct _ | .array _ _=>true | _=>false)=true) (hi:(P.info? ty).map (·.size)=some cs.size) :
    (results fn tmps).run P w=.ok (.tuple #[.agg cs,tmps.getD u undef]) w:=by
  have hp':tmps[p]?.getD undef=.pointer (some ⟨g,0,none⟩):=by simpa using hp
  simp [results,h,hp',asAddr,run_loadVar_row w g t ty cs fr d hg hu hd hi]
/-- 2 to 16384. -/
def limE:Nat:=512
def lim:Nat:=4294967296 ^ limE
theorem fits_gen (v k:Nat):(digs 4294967296 v).length≤k↔v < 4294967296 ^ k:=by
  constructor
  · intro h
    exact Nat.lt_of_lt_of_le (digs_lt (B:=4294967296) (by decide) v) (Nat.pow_le_pow_right (by decide) h)
  · exact fun h=>digs_len_le (B:=4294967296) (by decide) h
theorem fits_iff (v:Nat):(digs 4294967296 v).length≤512↔v < lim:=by
  have h:=fits_gen v limE
  unfold lim
  rw [←h]
  rfl
/-- What is in range, and the error. -/
def outV (x:Int):Int:=if x.natAbs < lim then x else 0
def outC (x:Int):Int:=if x.natAbs < lim then 0 else 4
theorem val_pi (x:Int):val 4294967296 (digs 4294967296 x.natAbs)=x.natAbs:=val_digs (by decide) _

theorem signed_any (neg:Bool) (l:List Nat) (A:Option Addr) (n c:Nat) (w:World) (hd:Dig 4294967296 l) (hl:LI .u32 w (.slice A n c) l) (hn:n≤1000000) :
    Calls Tryz.prog 114 #[.bool neg,.slice A n c] w (RetP (sgn neg (val 4294967296 l)) w):=by
  obtain ⟨W,hW⟩:∃ W,w.alloc (.cells #[.bool false,.slice none 0 0] 33)=W:=⟨_,rfl⟩
  have HK:=hJ (show Below w.heap.size w W by rw [←hW]; exact (Below.refl _ w).alloc (Nat.le_refl _) _)
  have HP:=hJ (show P2 33 W w.heap.size (.bool false) (.slice none 0 0) by rw [←hW]; exact P2.lit _ _ _ _)
  have HT:=hJ (trimmed_ok (fun _=>True) l A n c W hd (hl.new HK.out) hn)
  clear hd hl
  have hp:=HP.out
  obtain ⟨hc0,hc1⟩:=hp.cells
  have hf0:=hp.frozen 0
  have hf1:=hp.frozen 1
  clear hp
  go_enter Tryz.func114,Tryz.ntmps114
  go_wp2_with fail
  refine HT.out.mono ?_
  rintro e w' ⟨⟨k,rfl,hlk,hk,hkn,_⟩,rfl⟩
  have aB:=hJ hlk
  have aA:=hJ hk
  clear hlk hk hW
  rcases Nat.eq_zero_or_pos k with h0 | h0
  · have aC:=hJ (show val 4294967296 l=0 from (digs_nil (B:=4294967296) (by decide)).1 (List.eq_nil_of_length_eq_zero (by rw [aA.out,h0])))
    subst h0
    go_wp2
    have hr:=HP.out.all (.bool false) (.slice none 0 0)
    refine bodyPost_ret (results_cell_row rfl _ _ _ _ _ _ _ rfl hr Tryz.underlying33 rfl W_size) rfl ⟨false,none,0,0,rfl,?_,below_box HK.out (Nat.le_refl _) _ _⟩
    rw [aC.out,show sgn neg 0=0 by cases neg <;> rfl]
    exact PI.zero _
  · have hk0:((k:Int) == 0)=false:=beq_eq_false_iff_ne.2 (by omega)
    have aD:=hJ (show 0 < val 4294967296 l by
      rcases Nat.eq_zero_or_pos (val 4294967296 l) with e | e
      · have:=aA.out; rw [e,digs_zero] at this; simp at this; omega
      · exact e)
    go_wp2
    have hr:=HP.out.all (.bool neg) (.slice A k c)
    refine bodyPost_ret (results_cell_row rfl _ _ _ _ _ _ _ rfl hr Tryz.underlying33 rfl W_size) rfl ⟨neg,A,k,c,rfl,⟨?_,?_,?_⟩,below_box HK.out (Nat.le_refl _) _ _⟩
    · rw [←sgn_neg,decide_eq_true aD.out,Bool.and_true]
    · rw [sgn_abs]; exact aA.out
    · rw [sgn_abs]; exact aB.out.box HP.out rfl rfl _ _
theorem inRange_any (x:Int) (neg:Bool) (A:Option Addr) (n c:Nat) (w:World) (h:PI w neg A n c x) (hn:n≤1000000) :
    Calls Tryz.prog 133 #[.agg #[.bool neg,.slice A n c]] w (RetPE (outV x) (outC x) w):=by
  obtain ⟨W,hW⟩:∃ W,(w.alloc (.cells #[.bool neg,.slice A n c] 33)).alloc (.cells #[.bool false,.slice none 0 0] 33)=W:=⟨_,rfl⟩
  have HK:=hJ (show Below w.heap.size w W by rw [←hW]; exact W2_k _ _ _ _ _ _)
  have HA:=hJ (show P2 33 W w.heap.size (.bool neg) (.slice A n c) by rw [←hW]; exact W2_a _ _ _ _ _ _)
  have HZ:=hJ (show P2 33 W (w.heap.size+1) (.bool false) (.slice none 0 0) by rw [←hW]; exact W2_z _ _ _ _ _ _)
  have HX:=hJ (PIo.new h HK.out)
  have hnl:=h.2.1
  obtain ⟨a0,a1⟩:=HA.out.cells
  obtain ⟨z0,z1⟩:=HZ.out.cells
  have f0:=HZ.out.frozen 0
  have f1:=HZ.out.frozen 1
  have HF:=hJ (fits_iff x.natAbs)
  rw [hnl] at HF
  clear h hnl
  by_cases hle:n≤512
  · have aA:=hJ (HF.out.1 hle)
    rw [show outV x=x from if_pos aA.out,show outC x=0 from if_pos aA.out]
    have hgt:¬ (512:Int) < (n:Int):=by omega
    go_enter Tryz.func133,Tryz.ntmps133
    go_wp2
    have hr:=HZ.out.all (.bool neg) (.slice A n c)
    refine bodyPost_ret (results_cell1 rfl _ _ _ _ _ _ _ rfl hr Tryz.underlying33 rfl W_size) rfl ⟨neg,A,n,c,rfl,HX.out.box HZ.out rfl rfl _ _,below_box HK.out (by omega) _ _⟩
  · have aA:=hJ (fun h=>hle (HF.out.2 h))
    rw [show outV x=0 from if_neg aA.out,show outC x=4 from if_neg aA.out]
    have hgt:(512:Int) < (n:Int):=by omega
    go_enter Tryz.func133,Tryz.ntmps133
    go_wp2
    have hr:=HZ.out.all (.bool false) (.slice none 0 0)
    refine bodyPost_ret (results_cell1 rfl _ _ _ _ _ _ _ rfl hr Tryz.underlying33 rfl W_size) rfl ⟨false,none,0,0,rfl,PI.zero _,below_box HK.out (by omega) _ _⟩
end Go.Proofs.YtdgicnhadecldaaGreat

namespace Go.Proofs.YtdgicnhadecldaaGreat
set_option maxRecDepth 100000
set_option maxHeartbeats 12800000
open Go.RowKit
attribute [local go_sem ↓] Go.wp_at_zero Go.wp_at_succ

theorem RetP.stored {x:Int} {w w6:World} {neg:Bool} {A:Option Addr} {n c B:Nat} {z0 z1:Value} {t:TypeId} (h:PI w6 neg A n c x) (hp:P2 t w6 B z0 z1) (h0:isI z0=false) (h1:isI z1=false) (hb:Below w.heap.size w w6) (hB:w.heap.size≤B) (u0 u1:Value) :
    RetP x w (.returned (.agg #[.bool neg,.slice A n c])) ((w6.setCell ⟨B,0,none⟩ u0).setCell ⟨B,1,none⟩ u1) :=
  ⟨neg,A,n,c,rfl,h.box hp h0 h1 u0 u1,below_box hb hB u0 u1⟩
theorem dig_two (m:Nat) (h:m < 18446744073709551616):Dig 4294967296 [m % 4294967296,m / 4294967296]:=dig_cons.2 ⟨by omega,dig_cons.2 ⟨by omega,dig_nil⟩⟩
theorem val_two (m:Nat):val 4294967296 [m % 4294967296,m / 4294967296]=m:=by simp [val]; omega
theorem from_any (x:Int) (w:World) (hx:(Lit.int .i64 x).wf=true) :
    Calls Tryz.prog 84 #[.int .i64 x] w (RetP x w):=by
  have hb : -9223372036854775808≤x∧x≤9223372036854775807:=by
    simpa [Lit.wf,IntKind.min,IntKind.max,IntKind.signed,IntKind.bits] using hx
  obtain ⟨hb1,hb2⟩:=hb
  clear hx
  obtain ⟨W,hW⟩:∃ W,w.alloc (.cells #[.bool false,.slice none 0 0] 33)=W:=⟨_,rfl⟩
  have HK:=hJ (show Below w.heap.size w W by rw [←hW]; exact (Below.refl _ w).alloc (Nat.le_refl _) _)
  have HP:=hJ (show P2 33 W w.heap.size (.bool false) (.slice none 0 0) by rw [←hW]; exact P2.lit _ _ _ _)
  obtain ⟨m,hm⟩:∃ m,x.natAbs=m:=⟨_,rfl⟩
  have hml:m < 18446744073709551616:=by omega
  have aD:=hJ (wordsOf_any m W hml)
  have aG:=hJ (dig_two m hml)
  have aH:=hJ (val_two m)
  by_cases hneg:x < 0
  · have HS:=hJ (show sgn true m=x by unfold sgn; simp; omega)
    have e1:IntKind.u64.wrap x=x+18446744073709551616:=by rw [wu64]; omega
    have e2:IntKind.u64.wrap (-(x+18446744073709551616))=(m:Int):=by rw [wu64]; omega
    clear hm hml
    go_enter Tryz.func84,Tryz.ntmps84
    go_wp2_with fail
    refine aD.out.mono ?_
    rintro e w2 ⟨rfl,hblk,hb2⟩
    have aC:=hJ hblk
    have aA:=hJ hb2
    clear hblk hb2 hW
    go_wp2_with fail
    refine (signed_any true _ _ 2 2 w2 aG.out (aC.out.li0 rfl (Nat.le_refl _)).weak (by decide)).mono ?_
    rw [aH.out,HS.out]
    rintro e w6 ⟨neg6,A6,n6,c6,rfl,hr6,hb6⟩
    have hp:=(HP.out.new aA.out).new hb6
    obtain ⟨hc0,hc1⟩:=hp.cells
    have hf0:=hp.frozen 0
    have hf1:=hp.frozen 1
    have aB:=hJ hp
    have HR:=hJ hr6
    have HB:=hJ ((HK.out.trans (aA.out.mono HK.out.size)).trans (hb6.mono (HK.out.trans (aA.out.mono HK.out.size)).size))
    clear hp hr6 hb6
    go_wp2
    exact bodyPost_ret (results_cell_row rfl _ _ _ _ _ _ _ rfl (aB.out.all (.bool neg6) (.slice A6 n6 c6)) Tryz.underlying33 rfl W_size) rfl (RetP.stored HR.out aB.out rfl rfl HB.out (Nat.le_refl _) _ _)
  · have HS:=hJ (show sgn false m=x by unfold sgn; simp; omega)
    have e1:x=(m:Int):=by omega
    subst e1
    clear hm hml
    go_enter Tryz.func84,Tryz.ntmps84
    go_wp2_with fail
    refine aD.out.mono ?_
    rintro e w2 ⟨rfl,hblk,hb2⟩
    have aC:=hJ hblk
    have aA:=hJ hb2
    clear hblk hb2 hW
    go_wp2_with fail
    refine (signed_any false _ _ 2 2 w2 aG.out (aC.out.li0 rfl (Nat.le_refl _)).weak (by decide)).mono ?_
    rw [aH.out,HS.out]
    rintro e w6 ⟨neg6,A6,n6,c6,rfl,hr6,hb6⟩
    have hp:=(HP.out.new aA.out).new hb6
    obtain ⟨hc0,hc1⟩:=hp.cells
    have hf0:=hp.frozen 0
    have hf1:=hp.frozen 1
    have aB:=hJ hp
    have HR:=hJ hr6
    have HB:=hJ ((HK.out.trans (aA.out.mono HK.out.size)).trans (hb6.mono (HK.out.trans (aA.out.mono HK.out.size)).size))
    clear hp hr6 hb6
    go_wp2
    exact bodyPost_ret (results_cell_row rfl _ _ _ _ _ _ _ rfl (aB.out.all (.bool neg6) (.slice A6 n6 c6)) Tryz.underlying33 rfl W_size) rfl (RetP.stored HR.out aB.out rfl rfl HB.out (Nat.le_refl _) _ _)

theorem pcompare_any (x y:Int) (neg neg':Bool) (A A':Option Addr) (n c n' c':Nat) (w:World) (hx:PI w neg A n c x) (hy:PI w neg' A' n' c' y) (hn:n≤900000) (hn':n'≤900000) :
    Calls Tryz.prog 89 #[.agg #[.bool neg,.slice A n c],.agg #[.bool neg',.slice A' n' c']] w fun e w'=>e=.returned (.int .i64 (cmpI x y))∧Below w.heap.size w w':=by
  have aA:=hJ hx.1
  have aB:=hJ hy.1
  have aD:=hJ hx.2.2
  have aG:=hJ hy.2.2
  clear hx hy
  have hb0:∀ o o':Obj,Below w.heap.size w ((w.alloc o).alloc o'):=fun o o'=>((Below.refl _ w).alloc (Nat.le_refl _) o).alloc (by simp) o'
  have HB:=hJ hb0
  clear hb0
  cases neg <;> cases neg'
  · have HE:=hJ (cmpI_pp (a:=x) (b:=y) (by have:=aA.out; simpa using this.symm) (by have:=aB.out; simpa using this.symm))
    go_enter Tryz.func89,Tryz.ntmps89
    go_wp2_with fail
    refine (compareWords_any x.natAbs y.natAbs A A' n n' c c' _ (aD.out.new (HB.out _ _)) (aG.out.new (HB.out _ _)) (by omega) (by omega)).mono ?_
    rintro e w' ⟨rfl,hb⟩
    have aC:=hJ ((HB.out _ _).trans (hb.mono (HB.out _ _).size))
    clear hb
    go_wp2
    go_ret
    exact ⟨ret_int HE.out.symm,aC.out⟩
  · have HE:=hJ (cmpI_pn (a:=x) (b:=y) (by have:=aA.out; simpa using this.symm) (by have:=aB.out; simpa using this.symm))
    go_enter Tryz.func89,Tryz.ntmps89
    go_wp2_with fail
    go_ret
    exact ⟨ret_int HE.out.symm,HB.out _ _⟩
  · have HE:=hJ (cmpI_np (a:=x) (b:=y) (by have:=aA.out; simpa using this.symm) (by have:=aB.out; simpa using this.symm))
    go_enter Tryz.func89,Tryz.ntmps89
    go_wp2_with fail
    go_ret
    exact ⟨ret_int HE.out.symm,HB.out _ _⟩
  · have HE:=hJ (cmpI_nn (a:=x) (b:=y) (by have:=aA.out; simpa using this.symm) (by have:=aB.out; simpa using this.symm))
    go_enter Tryz.func89,Tryz.ntmps89
    go_wp2_with fail
    refine (compareWords_any y.natAbs x.natAbs A' A n' n c' c _ (aG.out.new (HB.out _ _)) (aD.out.new (HB.out _ _)) (by omega) (by omega)).mono ?_
    rintro e w' ⟨rfl,hb⟩
    have aC:=hJ ((HB.out _ _).trans (hb.mono (HB.out _ _).size))
    clear hb
    go_wp2
    go_ret
    exact ⟨ret_int HE.out.symm,aC.out⟩
theorem sign_any (x:Int) (neg:Bool) (A:Option Addr) (n c:Nat) (w:World) (hx:PI w neg A n c x) (hn:n≤900000) :
    Calls Tryz.prog 104 #[.agg #[.bool neg,.slice A n c]] w fun e w'=>e=.returned (.int .i64 (cmpI x 0))∧Below w.heap.size w w':=by
  have hb0:=(Below.refl w.heap.size w).alloc (Nat.le_refl _) (.cells #[.bool neg,.slice A n c] 33)
  have HB:=hJ hb0
  have HX:=hJ (hx.new hb0)
  clear hx hb0
  go_enter Tryz.func104,Tryz.ntmps104
  go_wp2_with fail
  refine (pcompare_any x 0 neg false A none n c 0 0 _ HX.out (PI.zero _) (by omega) (by omega)).mono ?_
  rintro e w' ⟨rfl,hb⟩
  have aA:=hJ (HB.out.trans (hb.mono HB.out.size))
  clear hb
  go_wp2
  go_ret
  exact ⟨rfl,aA.out⟩
theorem pneg_any (x:Int) (neg:Bool) (A:Option Addr) (n c:Nat) (w:World) (hx:PI w neg A n c x) (hn:n≤900000) :
    Calls Tryz.prog 113 #[.agg #[.bool neg,.slice A n c]] w (RetP (-x) w):=by
  have HL:=hJ hx.2.1
  have HK:=hJ (W2_k 33 w (.bool neg) (.slice A n c) (.bool false) (.slice none 0 0)).drew
  have HA:=hJ (show P2 33 (W2 33 w (.bool neg) (.slice A n c) (.bool false) (.slice none 0 0)).drew w.heap.size (.bool neg) (.slice A n c) from W2_a _ _ _ _ _ _)
  have HZ:=hJ (show P2 33 (W2 33 w (.bool neg) (.slice A n c) (.bool false) (.slice none 0 0)).drew (w.heap.size+1) (.bool false) (.slice none 0 0) from W2_z _ _ _ _ _ _)
  have HX:=hJ (hx.2.2.new HK.out)
  have aA:=hJ (show sgn (!neg) x.natAbs = -x by rw [hx.1]; exact sgn_not x)
  clear hx
  go_enter Tryz.func113,Tryz.ntmps113
  go_wp2_with fail
  go_region_held3 (fun w'=>w'.cell? ⟨w.heap.size,0,none⟩=some (.bool neg)∧w'.cell? ⟨w.heap.size,1,none⟩=some (.slice A n c)) (first | assumption | exact HA.out.cells | exact (hA6.out.far2 (by omega) _ _).cells | go_keep)
    (first | (go_at_call 148; refine (copied_any _ A n c _ HX.out (by omega)).mono ?_; rintro e w5 ⟨rfl,hblk5,hb5⟩; have hS5:=(HA.out.new hb5).cells) | (go_at_call 114; refine (signed_any (!neg) _ _ n n _ (dig_digs (by decide) x.natAbs) (hblk5.li0 HL.out (Nat.le_refl _)).weak (by omega)).mono ?_; rw [val_pi,aA.out]; rintro e w6 ⟨neg6,A6,n6,c6,rfl,hr6,hb6⟩; have hA6:=hJ ((HA.out.new hb5).new hb6); have hZ6:=hJ ((HZ.out.new hb5).new hb6); have hS6:=((HA.out.new hb5).new hb6).cells; have hc60:=((HZ.out.new hb5).new hb6).cells.1; have hc61:=((HZ.out.new hb5).new hb6).cells.2; have hf60:=((HZ.out.new hb5).new hb6).frozen 0; have hf61:=((HZ.out.new hb5).new hb6).frozen 1))
  have HR:=hJ hr6
  have aB:=hJ ((HK.out.trans (hb5.mono HK.out.size)).trans (hb6.mono (HK.out.trans (hb5.mono HK.out.size)).size))
  clear hr6 hb5 hb6 hS5 hS6 hblk5
  go_wp2
  exact bodyPost_ret (results_cell_row rfl _ _ _ _ _ _ _ rfl (hZ6.out.all (.bool neg6) (.slice A6 n6 c6)) Tryz.underlying33 rfl W_size) rfl (RetP.stored HR.out hZ6.out rfl rfl aB.out (by omega) _ _)
end Go.Proofs.YtdgicnhadecldaaGreat

namespace Go.Proofs.YtdgicnhadecldaaGreat
set_option maxRecDepth 100000
set_option maxHeartbeats 12800000
open Go.RowKit
attribute [local go_sem ↓] Go.wp_at_zero Go.wp_at_succ

def isSm (x:Int):Bool:=decide (-9223372036854775808≤x∧x≤9223372036854775807)
def smV (x:Int):Int:=if isSm x=true then x else 0
/-- What Small returns. -/
def RetS (x:Int) (w:World) (e:Ending) (w':World):Prop:=e=.returned (.tuple #[.int .i64 (smV x),.bool (isSm x)])∧Below w.heap.size w w'
theorem val_len2 {l:List Nat} (h:l.length≤2):l.getD 0 0+4294967296*l.getD 1 0=val 4294967296 l:=by
  match l,h with
  | [],_=>rfl
  | [a],_=>simp [val]
  | [a,b],_=>simp [val]
theorem psmall_any (x:Int) (neg:Bool) (A:Option Addr) (n c:Nat) (w:World) (hx:PI w neg A n c x) (hn:n≤900000) :
    Calls Tryz.prog 158 #[.agg #[.bool neg,.slice A n c]] w (RetS x w):=by
  have hb0:=(Below.refl w.heap.size w).alloc (Nat.le_refl _) (.cells #[.bool neg,.slice A n c] 33)
  have HB:=hJ hb0
  have HX:=hJ (hx.2.2.new hb0)
  have HS:=hJ hx.1
  have hl:=hx.2.1
  have HL:=hJ hl
  have hge:=digs_ge (B:=4294967296) (n:=x.natAbs) (by decide)
  rw [hl] at hge
  clear hx hb0 hl
  by_cases h2:2 < n
  · have hsm:isSm x=false:=by
      unfold isSm
      rw [decide_eq_false_iff_not]
      intro h
      have h1:x.natAbs≠0:=by
        intro h0
        have:=HL.out
        rw [h0,digs_zero,List.length_nil] at this
        omega
      have h3:=hge h1
      have h4:=Nat.pow_le_pow_right (show 0 < 4294967296 by decide) (show 2≤n - 1 by omega)
      have e:(4294967296:Nat) ^ 2=18446744073709551616:=by decide
      omega
    have hsv:smV x=0:=by unfold smV; rw [hsm]; rfl
    have HE:=hJ (And.intro hsm hsv)
    clear hsm hsv hge
    go_enter Tryz.func158,Tryz.ntmps158
    go_wp2
    go_ret2
    exact ⟨by rw [HE.out.1,HE.out.2]; rfl,HB.out⟩
  · have aA:=hJ (lowest_any _ A n c _ (dig_digs (by decide) x.natAbs) HX.out (by omega))
    rw [val_len2 (by rw [HL.out]; omega),val_pi] at aA
    clear hge
    obtain ⟨m,hm⟩:∃ m:Int,((x.natAbs:Nat):Int)=m:=⟨_,rfl⟩
    rw [hm] at aA
    have hm0:0≤m:=by omega
    have hml:m < 18446744073709551616:=by
      have h1:=digs_lt (B:=4294967296) (by decide) x.natAbs
      rw [HL.out] at h1
      have h4:=Nat.pow_le_pow_right (show 0 < 4294967296 by decide) (show n≤2 by omega)
      have e:(4294967296:Nat) ^ 2=18446744073709551616:=by decide
      omega
    cases neg
    · have aB:¬ x < 0:=by have:=HS.out; simpa using this.symm
      have hxm:x=m:=by omega
      by_cases hle:m≤9223372036854775807
      · have HE:=hJ (show isSm x=true∧smV x=m by
          have h:isSm x=true:=by unfold isSm; exact decide_eq_true (by omega)
          exact ⟨h,by unfold smV; rw [if_pos h,hxm]⟩)
        clear hm hxm aB
        go_enter Tryz.func158,Tryz.ntmps158
        go_wp2_with fail
        refine aA.out.mono ?_
        rintro e w' ⟨rfl,rfl⟩
        go_wp2
        go_ret2
        exact ⟨by rw [HE.out.1,HE.out.2]; rfl,HB.out⟩
      · have HE:=hJ (show isSm x=false∧smV x=0 by
          have h:isSm x=false:=by unfold isSm; exact decide_eq_false (by omega)
          exact ⟨h,by unfold smV; rw [h]; rfl⟩)
        clear hm hxm aB
        go_enter Tryz.func158,Tryz.ntmps158
        go_wp2_with fail
        refine aA.out.mono ?_
        rintro e w' ⟨rfl,rfl⟩
        go_wp2
        go_ret2
        exact ⟨by rw [HE.out.1,HE.out.2]; rfl,HB.out⟩
    · have aB:x < 0:=by have:=HS.out; simpa using this.symm
      have hxm:x = -m:=by omega
      by_cases hle:m≤9223372036854775808
      · have HE:=hJ (show isSm x=true∧smV x = -m by
          have h:isSm x=true:=by unfold isSm; exact decide_eq_true (by omega)
          exact ⟨h,by unfold smV; rw [if_pos h,hxm]⟩)
        by_cases hmx:m=9223372036854775808
        · subst hmx
          clear hm hxm aB
          go_enter Tryz.func158,Tryz.ntmps158
          go_wp2_with fail
          refine aA.out.mono ?_
          rintro e w' ⟨rfl,rfl⟩
          go_wp2
          go_ret2
          exact ⟨by
            rw [HE.out.1,HE.out.2]
            show Ending.returned (.tuple #[.int .i64 (wrap64 (-wrap64 9223372036854775808)),.bool true])=_
            rw [show wrap64 (-wrap64 9223372036854775808) = -9223372036854775808 by unfold wrap64; omega],HB.out⟩
        · have hml2:m≤9223372036854775807:=by omega
          clear hm hxm aB hmx
          go_enter Tryz.func158,Tryz.ntmps158
          go_wp2_with fail
          refine aA.out.mono ?_
          rintro e w' ⟨rfl,rfl⟩
          go_wp2
          go_ret2
          exact ⟨by rw [HE.out.1,HE.out.2]; rfl,HB.out⟩
      · have HE:=hJ (show isSm x=false∧smV x=0 by
          have h:isSm x=false:=by unfold isSm; exact decide_eq_false (by omega)
          exact ⟨h,by unfold smV; rw [h]; rfl⟩)
        clear hm hxm aB
        go_enter Tryz.func158,Tryz.ntmps158
        go_wp2_with fail
        refine aA.out.mono ?_
        rintro e w' ⟨rfl,rfl⟩
        go_wp2
        go_ret2
        exact ⟨by rw [HE.out.1,HE.out.2]; rfl,HB.out⟩
end Go.Proofs.YtdgicnhadecldaaGreat

namespace Go.Proofs.YtdgicnhadecldaaGreat
set_option maxRecDepth 100000
set_option maxHeartbeats 12800000
open Go.RowKit
attribute [local go_sem ↓] Go.wp_at_zero Go.wp_at_succ

theorem RetPE.stored {x code:Int} {w w6:World} {neg:Bool} {A:Option Addr} {n c B:Nat} {z0 z1:Value} {t:TypeId} (h:PI w6 neg A n c x) (hp:P2 t w6 B z0 z1) (h0:isI z0=false) (h1:isI z1=false) (hb:Below w.heap.size w w6) (hB:w.heap.size≤B) (u0 u1:Value) :
    RetPE x code w (.returned (.tuple #[.agg #[.bool neg,.slice A n c],.int .i64 code])) ((w6.setCell ⟨B,0,none⟩ u0).setCell ⟨B,1,none⟩ u1) :=
  ⟨neg,A,n,c,rfl,h.box hp h0 h1 u0 u1,below_box hb hB u0 u1⟩
theorem in_lim {x:Int} (h:x.natAbs < lim):outV x=x∧outC x=0:=⟨if_pos h,if_pos h⟩
theorem len_of {w:World} {neg:Bool} {A:Option Addr} {n c k:Nat} {s:Bool} {o:List Nat} {z:Int} (h:PI w neg A n c z) (hz:sgn s (val 4294967296 o)=z) (hd:Dig 4294967296 o) (hl:o.length=k) (hk:k≤1000000):n≤1000000:=by
  have:=h.2.1
  rw [←hz,sgn_abs] at this
  have:=digs_len9 (B:=4294967296) (by decide) hd
  omega
theorem pmul_any (x y:Int) (s s':Bool) (A A':Option Addr) (n c n' c':Nat) (w:World) (hx:PI w s A n c x) (hy:PI w s' A' n' c' y) (hn:n≤300000) (hn':n'≤300000) :
    Calls Tryz.prog 129 #[.agg #[.bool s,.slice A n c],.agg #[.bool s',.slice A' n' c']] w (RetPE (outV (x*y)) (outC (x*y)) w):=by
  have aG:=hJ hx.1
  have aH:=hJ hy.1
  have aI:=hJ hx.2.2
  have aJ:=hJ hy.2.2
  clear hx hy
  have HK:=hJ (show Below w.heap.size w (W3 33 w (.bool s) (.slice A n c) (.bool s') (.slice A' n' c') (.bool false) (.slice none 0 0)).drew from (W3_k 33 w (.bool s) (.slice A n c) (.bool s') (.slice A' n' c') (.bool false) (.slice none 0 0)).drew)
  have HA:=hJ (show P2 33 (W3 33 w (.bool s) (.slice A n c) (.bool s') (.slice A' n' c') (.bool false) (.slice none 0 0)).drew w.heap.size (.bool s) (.slice A n c) from (W3_a 33 w (.bool s) (.slice A n c) (.bool s') (.slice A' n' c') (.bool false) (.slice none 0 0)))
  have HB:=hJ (show P2 33 (W3 33 w (.bool s) (.slice A n c) (.bool s') (.slice A' n' c') (.bool false) (.slice none 0 0)).drew (w.heap.size+1) (.bool s') (.slice A' n' c') from (W3_b 33 w (.bool s) (.slice A n c) (.bool s') (.slice A' n' c') (.bool false) (.slice none 0 0)))
  have HZ:=hJ (show P2 33 (W3 33 w (.bool s) (.slice A n c) (.bool s') (.slice A' n' c') (.bool false) (.slice none 0 0)).drew (w.heap.size+1+1) (.bool false) (.slice none 0 0) from (W3_z 33 w (.bool s) (.slice A n c) (.bool s') (.slice A' n' c') (.bool false) (.slice none 0 0)))
  go_enter Tryz.func129,Tryz.ntmps129
  go_wp2_with fail
  go_region_held3 (fun w'=>w'.cell? ⟨w.heap.size,0,none⟩=some (.bool s)∧w'.cell? ⟨w.heap.size,1,none⟩=some (.slice A n c)∧w'.cell? ⟨w.heap.size+1,0,none⟩=some (.bool s')∧w'.cell? ⟨w.heap.size+1,1,none⟩=some (.slice A' n' c')) (first | assumption | exact cells4 HA.out HB.out | exact cells4 (hA7.out.far2 (by omega) _ _) (hB7.out.far2 (by omega) _ _) | go_keep)
    (first | (go_at_call 156; refine (product_any _ _ A A' n n' c c' _ (dig_digs (by decide) x.natAbs) (dig_digs (by decide) y.natAbs) (aI.out.new HK.out) (aJ.out.new HK.out) (by omega) (by omega)).mono ?_; rintro e w5 ⟨G5,n5,o5,rfl,hg5,hblk5,hol5,hod5,⟨hov5,hon5⟩,hb5⟩; have hA5:=hJ (HA.out.new hb5); have hB5:=hJ (HB.out.new hb5); have hZ5:=hJ (HZ.out.new hb5); have hS5:=cells4 hA5.out hB5.out; have aA:=hJ (show sgn (s != s') (val 4294967296 o5)=x*y from (by rw [hov5,val_pi,val_pi]; exact mul_sign aG.out aH.out)); have hn5:n5≤1000000:=(by omega); have aK:=hJ hblk5; have aB:=hJ hol5; have aC:=hJ hod5; clear hov5 hon5 hol5 hblk5 hod5) | (go_at_call 114; refine (signed_any (s != s') o5 _ n5 n5 _ aC.out (aK.out.li0 aB.out (Nat.le_refl _)).weak hn5).mono ?_; rw [aA.out]; rintro e w6 ⟨neg6,A6,n6,c6,rfl,hr6,hb6⟩; have hA6:=hJ (hA5.out.new hb6); have hB6:=hJ (hB5.out.new hb6); have hZ6:=hJ (hZ5.out.new hb6); have hS6:=cells4 hA6.out hB6.out; have aD:=hJ hr6; clear hr6) | (go_at_call 133; refine (inRange_any _ neg6 A6 n6 c6 _ aD.out (len_of aD.out aA.out aC.out aB.out hn5)).mono ?_; rintro e w7 ⟨neg7,A7,n7,c7,rfl,hr7,hb7⟩; have hA7:=hJ (hA6.out.new hb7); have hB7:=hJ (hB6.out.new hb7); have hZ7:=hJ (hZ6.out.new hb7); have hS7:=cells4 hA7.out hB7.out; have hc70:=hZ7.out.cells.1; have hc71:=hZ7.out.cells.2; have hf70:=hZ7.out.frozen 0; have hf71:=hZ7.out.frozen 1; have aL:=hJ hr7; clear hr7))
  have aM:=hJ (((HK.out.trans (hb5.mono HK.out.size)).trans (hb6.mono (HK.out.trans (hb5.mono HK.out.size)).size)).trans (hb7.mono ((HK.out.trans (hb5.mono HK.out.size)).trans (hb6.mono (HK.out.trans (hb5.mono HK.out.size)).size)).size))
  clear hb5 hb6 hb7 hS5 hS6 hS7
  go_wp2
  exact bodyPost_ret (results_cell1 rfl _ _ _ _ _ _ _ rfl (hZ7.out.all (.bool neg7) (.slice A7 n7 c7)) Tryz.underlying33 rfl W_size) rfl (RetPE.stored aL.out hZ7.out rfl rfl aM.out (by omega) _ _)
theorem padd_same (x y:Int) (s:Bool) (A A':Option Addr) (n c n' c':Nat) (w:World) (hx:PI w s A n c x) (hy:PI w s A' n' c' y) (hn:n≤300000) (hn':n'≤300000) :
    Calls Tryz.prog 97 #[.agg #[.bool s,.slice A n c],.agg #[.bool s,.slice A' n' c']] w (RetPE (outV (x+y)) (outC (x+y)) w):=by
  have aG:=hJ hx.1
  have aH:=hJ hy.1
  have aI:=hJ hx.2.2
  have aJ:=hJ hy.2.2
  clear hx hy
  have HK:=hJ (show Below w.heap.size w (W3 33 w (.bool s) (.slice A n c) (.bool s) (.slice A' n' c') (.bool false) (.slice none 0 0)).drew from (W3_k 33 w (.bool s) (.slice A n c) (.bool s) (.slice A' n' c') (.bool false) (.slice none 0 0)).drew)
  have HA:=hJ (show P2 33 (W3 33 w (.bool s) (.slice A n c) (.bool s) (.slice A' n' c') (.bool false) (.slice none 0 0)).drew w.heap.size (.bool s) (.slice A n c) from (W3_a 33 w (.bool s) (.slice A n c) (.bool s) (.slice A' n' c') (.bool false) (.slice none 0 0)))
  have HB:=hJ (show P2 33 (W3 33 w (.bool s) (.slice A n c) (.bool s) (.slice A' n' c') (.bool false) (.slice none 0 0)).drew (w.heap.size+1) (.bool s) (.slice A' n' c') from (W3_b 33 w (.bool s) (.slice A n c) (.bool s) (.slice A' n' c') (.bool false) (.slice none 0 0)))
  have HZ:=hJ (show P2 33 (W3 33 w (.bool s) (.slice A n c) (.bool s) (.slice A' n' c') (.bool false) (.slice none 0 0)).drew (w.heap.size+1+1) (.bool false) (.slice none 0 0) from (W3_z 33 w (.bool s) (.slice A n c) (.bool s) (.slice A' n' c') (.bool false) (.slice none 0 0)))
  go_enter Tryz.func97,Tryz.ntmps97
  go_wp2_with fail
  go_region_held3 (fun w'=>w'.cell? ⟨w.heap.size,0,none⟩=some (.bool s)∧w'.cell? ⟨w.heap.size,1,none⟩=some (.slice A n c)∧w'.cell? ⟨w.heap.size+1,0,none⟩=some (.bool s)∧w'.cell? ⟨w.heap.size+1,1,none⟩=some (.slice A' n' c')) (first | assumption | exact cells4 HA.out HB.out | exact cells4 (hA7.out.far2 (by omega) _ _) (hB7.out.far2 (by omega) _ _) | go_keep)
    (first | (go_at_call 134; refine (sum_any _ _ A A' n n' c c' _ (dig_digs (by decide) x.natAbs) (dig_digs (by decide) y.natAbs) (aI.out.new HK.out) (aJ.out.new HK.out) (by omega) (by omega)).mono ?_; rintro e w5 ⟨G5,n5,o5,rfl,hg5,hblk5,hol5,hod5,⟨hov5,hon5⟩,hb5⟩; have hA5:=hJ (HA.out.new hb5); have hB5:=hJ (HB.out.new hb5); have hZ5:=hJ (HZ.out.new hb5); have hS5:=cells4 hA5.out hB5.out; have aA:=hJ (show sgn s (val 4294967296 o5)=x+y from (by rw [hov5,val_pi,val_pi]; exact add_same aG.out aH.out)); have hn5:n5≤1000000:=(by omega); have aK:=hJ hblk5; have aB:=hJ hol5; have aC:=hJ hod5; clear hov5 hon5 hol5 hblk5 hod5) | (go_at_call 114; refine (signed_any s o5 _ n5 n5 _ aC.out (aK.out.li0 aB.out (Nat.le_refl _)).weak hn5).mono ?_; rw [aA.out]; rintro e w6 ⟨neg6,A6,n6,c6,rfl,hr6,hb6⟩; have hA6:=hJ (hA5.out.new hb6); have hB6:=hJ (hB5.out.new hb6); have hZ6:=hJ (hZ5.out.new hb6); have hS6:=cells4 hA6.out hB6.out; have aD:=hJ hr6; clear hr6) | (go_at_call 133; refine (inRange_any _ neg6 A6 n6 c6 _ aD.out (len_of aD.out aA.out aC.out aB.out hn5)).mono ?_; rintro e w7 ⟨neg7,A7,n7,c7,rfl,hr7,hb7⟩; have hA7:=hJ (hA6.out.new hb7); have hB7:=hJ (hB6.out.new hb7); have hZ7:=hJ (hZ6.out.new hb7); have hS7:=cells4 hA7.out hB7.out; have hc70:=hZ7.out.cells.1; have hc71:=hZ7.out.cells.2; have hf70:=hZ7.out.frozen 0; have hf71:=hZ7.out.frozen 1; have aL:=hJ hr7; clear hr7))
  have aM:=hJ (((HK.out.trans (hb5.mono HK.out.size)).trans (hb6.mono (HK.out.trans (hb5.mono HK.out.size)).size)).trans (hb7.mono ((HK.out.trans (hb5.mono HK.out.size)).trans (hb6.mono (HK.out.trans (hb5.mono HK.out.size)).size)).size))
  clear hb5 hb6 hb7 hS5 hS6 hS7
  go_wp2
  exact bodyPost_ret (results_cell1 rfl _ _ _ _ _ _ _ rfl (hZ7.out.all (.bool neg7) (.slice A7 n7 c7)) Tryz.underlying33 rfl W_size) rfl (RetPE.stored aL.out hZ7.out rfl rfl aM.out (by omega) _ _)
theorem padd_lt (x y:Int) (s s':Bool) (A A':Option Addr) (n c n' c':Nat) (w:World) (hx:PI w s A n c x) (hy:PI w s' A' n' c' y) (hn:n≤300000) (hn':n'≤300000) (_hfx:x.natAbs < lim) (_hfy:y.natAbs < lim) (hne:s≠s') (hlt:x.natAbs < y.natAbs) :
    Calls Tryz.prog 97 #[.agg #[.bool s,.slice A n c],.agg #[.bool s',.slice A' n' c']] w (RetPE (outV (x+y)) (outC (x+y)) w):=by
  have aJ:=hJ hx.1
  have aK:=hJ hy.1
  have aB:=hJ hx.2.2
  have aC:=hJ hy.2.2
  clear hx hy
  have HK:=hJ (show Below w.heap.size w (W3 33 w (.bool s) (.slice A n c) (.bool s') (.slice A' n' c') (.bool false) (.slice none 0 0)) from (W3_k 33 w (.bool s) (.slice A n c) (.bool s') (.slice A' n' c') (.bool false) (.slice none 0 0)))
  have HA:=hJ (show P2 33 (W3 33 w (.bool s) (.slice A n c) (.bool s') (.slice A' n' c') (.bool false) (.slice none 0 0)) w.heap.size (.bool s) (.slice A n c) from (W3_a 33 w (.bool s) (.slice A n c) (.bool s') (.slice A' n' c') (.bool false) (.slice none 0 0)))
  have HB:=hJ (show P2 33 (W3 33 w (.bool s) (.slice A n c) (.bool s') (.slice A' n' c') (.bool false) (.slice none 0 0)) (w.heap.size+1) (.bool s') (.slice A' n' c') from (W3_b 33 w (.bool s) (.slice A n c) (.bool s') (.slice A' n' c') (.bool false) (.slice none 0 0)))
  have HZ:=hJ (show P2 33 (W3 33 w (.bool s) (.slice A n c) (.bool s') (.slice A' n' c') (.bool false) (.slice none 0 0)) (w.heap.size+1+1) (.bool false) (.slice none 0 0) from (W3_z 33 w (.bool s) (.slice A n c) (.bool s') (.slice A' n' c') (.bool false) (.slice none 0 0)))
  have hsb:(s == s')=false:=beq_eq_false_iff_ne.2 hne
  obtain ⟨v,hv⟩:∃ v,cmpN x.natAbs y.natAbs=v:=⟨_,rfl⟩
  have hv0:v < 0:=by rw [←hv,cmpN_lt hlt]; decide
  have HV:=hJ hv
  have aD:=hJ (add_lt aJ.out aK.out hne (Nat.le_of_lt hlt))
  have aG:=hJ (in_lim (x:=x+y) (by
    rw [←aD.out,sgn_abs]
    omega))
  clear hv
  go_enter Tryz.func97,Tryz.ntmps97
  go_wp2_with fail
  refine (compareWords_any x.natAbs y.natAbs A A' n n' c c' (W3 33 w (.bool s) (.slice A n c) (.bool s') (.slice A' n' c') (.bool false) (.slice none 0 0)) (aB.out.new HK.out) (aC.out.new HK.out) (by omega) (by omega)).mono ?_
  rintro e w4 ⟨rfl,hb4⟩
  rw [HV.out]
  have aA:=hJ (show Below w.heap.size w w4.drew from (HK.out.trans (hb4.mono HK.out.size)).drew)
  have aH:=hJ (show P2 33 w4.drew w.heap.size (.bool s) (.slice A n c) from HA.out.new hb4.drew)
  have aI:=hJ (show P2 33 w4.drew (w.heap.size+1) (.bool s') (.slice A' n' c') from HB.out.new hb4.drew)
  have aL:=hJ (show P2 33 w4.drew (w.heap.size+1+1) (.bool false) (.slice none 0 0) from HZ.out.new hb4.drew)
  clear hb4
  go_wp2_with fail
  go_region_held3 (fun w'=>w'.cell? ⟨w.heap.size,0,none⟩=some (.bool s)∧w'.cell? ⟨w.heap.size,1,none⟩=some (.slice A n c)∧w'.cell? ⟨w.heap.size+1,0,none⟩=some (.bool s')∧w'.cell? ⟨w.heap.size+1,1,none⟩=some (.slice A' n' c')) (first | assumption | exact cells4 aH.out aI.out | exact cells4 (hA6.out.far2 (by omega) _ _) (hB6.out.far2 (by omega) _ _) | go_keep)
    (first | (go_at_call 135; refine (difference_any _ _ A' A n' n c' c _ (dig_digs (by decide) y.natAbs) (dig_digs (by decide) x.natAbs) (aC.out.new aA.out) (aB.out.new aA.out) (by omega) (by omega) (by rw [val_pi,val_pi]; omega)).mono ?_; rintro e w5 ⟨G5,n5,o5,rfl,hg5,hblk5,hol5,hod5,⟨hov5,hon5⟩,hb5⟩; have hA5:=hJ (aH.out.new hb5); have hB5:=hJ (aI.out.new hb5); have hZ5:=hJ (aL.out.new hb5); have hS5:=cells4 hA5.out hB5.out; have aM:=hJ (show sgn s' (val 4294967296 o5)=x+y from (by rw [hov5,val_pi,val_pi]; exact aD.out)); have hn5:n5≤1000000:=(by omega); have aO:=hJ hblk5; have aR:=hJ hol5; have aS:=hJ hod5; clear hov5 hon5 hol5 hblk5 hod5) | (go_at_call 114; refine (signed_any s' o5 _ n5 n5 _ aS.out (aO.out.li0 aR.out (Nat.le_refl _)).weak hn5).mono ?_; rw [aM.out]; rintro e w6 ⟨neg6,A6,n6,c6,rfl,hr6,hb6⟩; have hA6:=hJ (hA5.out.new hb6); have hB6:=hJ (hB5.out.new hb6); have hZ6:=hJ (hZ5.out.new hb6); have hS6:=cells4 hA6.out hB6.out; have aT:=hJ hr6; clear hr6; have hc60:=hZ6.out.cells.1; have hc61:=hZ6.out.cells.2; have hf60:=hZ6.out.frozen 0; have hf61:=hZ6.out.frozen 1))
  have aU:=hJ ((aA.out.trans (hb5.mono aA.out.size)).trans (hb6.mono (aA.out.trans (hb5.mono aA.out.size)).size))
  clear hb5 hb6 hS5 hS6
  go_wp2
  rw [aG.out.1,aG.out.2]
  exact bodyPost_ret (results_cell1 rfl _ _ _ _ _ _ _ rfl (hZ6.out.all (.bool neg6) (.slice A6 n6 c6)) Tryz.underlying33 rfl W_size) rfl (RetPE.stored aT.out hZ6.out rfl rfl aU.out (by omega) _ _)
theorem padd_ge (x y:Int) (s s':Bool) (A A':Option Addr) (n c n' c':Nat) (w:World) (hx:PI w s A n c x) (hy:PI w s' A' n' c' y) (hn:n≤300000) (hn':n'≤300000) (_hfx:x.natAbs < lim) (_hfy:y.natAbs < lim) (hne:s≠s') (hge:y.natAbs≤x.natAbs) :
    Calls Tryz.prog 97 #[.agg #[.bool s,.slice A n c],.agg #[.bool s',.slice A' n' c']] w (RetPE (outV (x+y)) (outC (x+y)) w):=by
  have aJ:=hJ hx.1
  have aK:=hJ hy.1
  have aB:=hJ hx.2.2
  have aC:=hJ hy.2.2
  clear hx hy
  have HK:=hJ (show Below w.heap.size w (W3 33 w (.bool s) (.slice A n c) (.bool s') (.slice A' n' c') (.bool false) (.slice none 0 0)) from (W3_k 33 w (.bool s) (.slice A n c) (.bool s') (.slice A' n' c') (.bool false) (.slice none 0 0)))
  have HA:=hJ (show P2 33 (W3 33 w (.bool s) (.slice A n c) (.bool s') (.slice A' n' c') (.bool false) (.slice none 0 0)) w.heap.size (.bool s) (.slice A n c) from (W3_a 33 w (.bool s) (.slice A n c) (.bool s') (.slice A' n' c') (.bool false) (.slice none 0 0)))
  have HB:=hJ (show P2 33 (W3 33 w (.bool s) (.slice A n c) (.bool s') (.slice A' n' c') (.bool false) (.slice none 0 0)) (w.heap.size+1) (.bool s') (.slice A' n' c') from (W3_b 33 w (.bool s) (.slice A n c) (.bool s') (.slice A' n' c') (.bool false) (.slice none 0 0)))
  have HZ:=hJ (show P2 33 (W3 33 w (.bool s) (.slice A n c) (.bool s') (.slice A' n' c') (.bool false) (.slice none 0 0)) (w.heap.size+1+1) (.bool false) (.slice none 0 0) from (W3_z 33 w (.bool s) (.slice A n c) (.bool s') (.slice A' n' c') (.bool false) (.slice none 0 0)))
  have hsb:(s == s')=false:=beq_eq_false_iff_ne.2 hne
  obtain ⟨v,hv⟩:∃ v,cmpN x.natAbs y.natAbs=v:=⟨_,rfl⟩
  have hv0:¬ v < 0:=by rw [←hv,cmpN,if_neg (by omega)]; split <;> decide
  have HV:=hJ hv
  have aD:=hJ (add_gt aJ.out aK.out hne hge)
  have aG:=hJ (in_lim (x:=x+y) (by
    rw [←aD.out,sgn_abs]
    omega))
  clear hv
  go_enter Tryz.func97,Tryz.ntmps97
  go_wp2_with fail
  refine (compareWords_any x.natAbs y.natAbs A A' n n' c c' (W3 33 w (.bool s) (.slice A n c) (.bool s') (.slice A' n' c') (.bool false) (.slice none 0 0)) (aB.out.new HK.out) (aC.out.new HK.out) (by omega) (by omega)).mono ?_
  rintro e w4 ⟨rfl,hb4⟩
  rw [HV.out]
  have aA:=hJ (show Below w.heap.size w w4.drew from (HK.out.trans (hb4.mono HK.out.size)).drew)
  have aH:=hJ (show P2 33 w4.drew w.heap.size (.bool s) (.slice A n c) from HA.out.new hb4.drew)
  have aI:=hJ (show P2 33 w4.drew (w.heap.size+1) (.bool s') (.slice A' n' c') from HB.out.new hb4.drew)
  have aL:=hJ (show P2 33 w4.drew (w.heap.size+1+1) (.bool false) (.slice none 0 0) from HZ.out.new hb4.drew)
  clear hb4
  go_wp2_with fail
  go_region_held3 (fun w'=>w'.cell? ⟨w.heap.size,0,none⟩=some (.bool s)∧w'.cell? ⟨w.heap.size,1,none⟩=some (.slice A n c)∧w'.cell? ⟨w.heap.size+1,0,none⟩=some (.bool s')∧w'.cell? ⟨w.heap.size+1,1,none⟩=some (.slice A' n' c')) (first | assumption | exact cells4 aH.out aI.out | exact cells4 (hA6.out.far2 (by omega) _ _) (hB6.out.far2 (by omega) _ _) | go_keep)
    (first | (go_at_call 135; refine (difference_any _ _ A A' n n' c c' _ (dig_digs (by decide) x.natAbs) (dig_digs (by decide) y.natAbs) (aB.out.new aA.out) (aC.out.new aA.out) (by omega) (by omega) (by rw [val_pi,val_pi]; omega)).mono ?_; rintro e w5 ⟨G5,n5,o5,rfl,hg5,hblk5,hol5,hod5,⟨hov5,hon5⟩,hb5⟩; have hA5:=hJ (aH.out.new hb5); have hB5:=hJ (aI.out.new hb5); have hZ5:=hJ (aL.out.new hb5); have hS5:=cells4 hA5.out hB5.out; have aM:=hJ (show sgn s (val 4294967296 o5)=x+y from (by rw [hov5,val_pi,val_pi]; exact aD.out)); have hn5:n5≤1000000:=(by omega); have aO:=hJ hblk5; have aR:=hJ hol5; have aS:=hJ hod5; clear hov5 hon5 hol5 hblk5 hod5) | (go_at_call 114; refine (signed_any s o5 _ n5 n5 _ aS.out (aO.out.li0 aR.out (Nat.le_refl _)).weak hn5).mono ?_; rw [aM.out]; rintro e w6 ⟨neg6,A6,n6,c6,rfl,hr6,hb6⟩; have hA6:=hJ (hA5.out.new hb6); have hB6:=hJ (hB5.out.new hb6); have hZ6:=hJ (hZ5.out.new hb6); have hS6:=cells4 hA6.out hB6.out; have aT:=hJ hr6; clear hr6; have hc60:=hZ6.out.cells.1; have hc61:=hZ6.out.cells.2; have hf60:=hZ6.out.frozen 0; have hf61:=hZ6.out.frozen 1))
  have aU:=hJ ((aA.out.trans (hb5.mono aA.out.size)).trans (hb6.mono (aA.out.trans (hb5.mono aA.out.size)).size))
  clear hb5 hb6 hS5 hS6
  go_wp2
  rw [aG.out.1,aG.out.2]
  exact bodyPost_ret (results_cell1 rfl _ _ _ _ _ _ _ rfl (hZ6.out.all (.bool neg6) (.slice A6 n6 c6)) Tryz.underlying33 rfl W_size) rfl (RetPE.stored aT.out hZ6.out rfl rfl aU.out (by omega) _ _)
theorem padd_any (x y:Int) (s s':Bool) (A A':Option Addr) (n c n' c':Nat) (w:World) (hx:PI w s A n c x) (hy:PI w s' A' n' c' y) (hn:n≤300000) (hn':n'≤300000) (hfx:x.natAbs < lim) (hfy:y.natAbs < lim) :
    Calls Tryz.prog 97 #[.agg #[.bool s,.slice A n c],.agg #[.bool s',.slice A' n' c']] w (RetPE (outV (x+y)) (outC (x+y)) w):=by
  by_cases h:s=s'
  · subst h
    exact padd_same x y s A A' n c n' c' w hx hy hn hn'
  · rcases Nat.lt_or_ge x.natAbs y.natAbs with h1 | h1
    · exact padd_lt x y s s' A A' n c n' c' w hx hy hn hn' hfx hfy h h1
    · exact padd_ge x y s s' A A' n c n' c' w hx hy hn hn' hfx hfy h h1
end Go.Proofs.YtdgicnhadecldaaGreat

namespace Go.Proofs.YtdgicnhadecldaaGreat
set_option maxRecDepth 100000
set_option maxHeartbeats 12800000
open Go.RowKit
attribute [local go_sem ↓] Go.wp_at_zero Go.wp_at_succ

end Go.Proofs.YtdgicnhadecldaaGreat

namespace Go.Proofs.YtdgicnhadecldaaGreat
set_option maxRecDepth 100000
set_option maxHeartbeats 12800000
open Go.RowKit
attribute [local go_sem ↓] Go.wp_at_zero Go.wp_at_succ

theorem results_cell3 {P:Program} {fn:Func} {p q u:Tmp} {ty ty':TypeId} (h:fn.results=#[.cell p ty,.cell q ty',.tmp u]) (tmps:Array Value) (w:World) (g g':Nat) (t t':TypeId) (cs cs':Array Value) (fr fr':Nat × Nat) (d d':TypeDesc)
    (hp:tmps.getD p undef=.pointer (some ⟨g,0,none⟩)) (hq:tmps.getD q undef=.pointer (some ⟨g',0,none⟩)) (hg:w.heap[g]?=some (.cells cs t fr)) (hg':w.heap[g']?=some (.cells cs' t' fr'))
    (hu:P.underlying ty=some d) (hd:(match d with | .struct _ | .array _ _=>true | _=>false)=true) (hi:(P.info? ty).map (·.size)=some cs.size)
    (hu':P.underlying ty'=some d') (hd':(match d' with | .struct _ | .array _ _=>true | _=>false)=true) (hi':(P.info? ty').map (·.size)=some cs'.size) :
    (results fn tmps).run P w=.ok (.tuple #[.agg cs,.agg cs',tmps.getD u undef]) w:=by
  have hp':tmps[p]?.getD undef=.pointer (some ⟨g,0,none⟩):=by simpa using hp
  have hq':tmps[q]?.getD undef=.pointer (some ⟨g',0,none⟩):=by simpa using hq
  simp [results,h,hp',hq',asAddr,run_loadVar_row w g t ty cs fr d hg hu hd hi,run_loadVar_row w g' t' ty' cs' fr' d' hg' hu' hd' hi']
/-- What Div returns. -/
def RetP2 (x y code:Int) (w:World) (e:Ending) (w':World):Prop:=∃ s A n c s' A' n' c',e=.returned (.tuple #[.agg #[.bool s,.slice A n c],.agg #[.bool s',.slice A' n' c'],.int .i64 code])∧PI w' s A n c x∧PI w' s' A' n' c' y∧Below w.heap.size w w'
theorem two_storedP {t:TypeId} {w0 w:World} {g g':Nat} {z0 z1:Value} {x y code:Int} {s s':Bool} {A A':Option Addr} {n c n' c':Nat} (hq:P2 t w g z0 z1) (hr:P2 t w g' z0 z1) (h0:isI z0=false) (h1:isI z1=false) (hne:g≠g') (hx:PI w s A n c x) (hy:PI w s' A' n' c' y) (hb:Below w0.heap.size w0 w) (hg:w0.heap.size≤g) (hg':w0.heap.size≤g') :
    P2 t (WQ w g g' (.bool s) (.slice A n c) (.bool s') (.slice A' n' c')) g (.bool s) (.slice A n c)∧P2 t (WQ w g g' (.bool s) (.slice A n c) (.bool s') (.slice A' n' c')) g' (.bool s') (.slice A' n' c') ∧
    RetP2 x y code w0 (.returned (.tuple #[.agg #[.bool s,.slice A n c],.agg #[.bool s',.slice A' n' c'],.int .i64 code])) (WQ w g g' (.bool s) (.slice A n c) (.bool s') (.slice A' n' c')):=by
  have hr':=hr.far2 (g:=g) hne.symm (.bool s) (.slice A n c)
  exact ⟨(hq.all _ _).far2 hne _ _,hr'.all _ _,s,A,n,c,s',A',n',c',rfl,(hx.box hq h0 h1 _ _).box hr' h0 h1 _ _,(hy.box hq h0 h1 _ _).box hr' h0 h1 _ _,below_box (below_box hb hg _ _) hg' _ _⟩
theorem cmpI_zero {y:Int} (h:y≠0):(cmpI y 0 == 0)=false:=by
  rw [beq_eq_false_iff_ne]
  unfold cmpI
  split <;> (try split) <;> omega

theorem pdiv_any (x y:Int) (s s':Bool) (A A':Option Addr) (n c n' c':Nat) (w:World) (hx:PI w s A n c x) (hy:PI w s' A' n' c' y) (hn:n≤100000) (hn':n'≤100000) (hy0:y≠0) :
    Calls Tryz.prog 130 #[.agg #[.bool s,.slice A n c],.agg #[.bool s',.slice A' n' c']] w (RetP2 (x / y) (x % y) 0 w):=by
  have aW:=hJ hx.1
  have aX:=hJ hy.1
  have aZ:=hJ hx.2.1
  have bA:=hJ hy.2.1
  have aR:=hJ (show 0 < y.natAbs by omega)
  have aS:=hJ hy0
  obtain ⟨W,hW⟩:∃ W,(((w.alloc (.cells #[.bool s,.slice A n c] 33)).alloc (.cells #[.bool s',.slice A' n' c'] 33)).alloc (.cells #[.bool false,.slice none 0 0] 33)).alloc (.cells #[.bool false,.slice none 0 0] 33)=W:=⟨_,rfl⟩
  obtain ⟨fa,fb,fq,fr,fk,fs⟩:=W4_facts _ _ _ _ _ _ _ _ _ hW
  have bB:=hJ (hx.2.2.new fk)
  have HY:=hJ (hy.new fk)
  have HA:=hJ fa
  have HB:=hJ fb
  have HQ:=hJ fq
  have HR:=hJ fr
  have HK:=hJ fk
  obtain ⟨cb0,cb1⟩:=fb.cells
  have hws:w.heap.size+1+1+1 < W.heap.size:=fr.lt
  clear hx hy hy0 fa fb fq fr fk fs
  go_enter Tryz.func130,Tryz.ntmps130
  go_wp2_with fail
  refine (sign_any y s' A' n' c' W HY.out (by omega)).mono ?_
  rintro e w1 ⟨rfl,hb1⟩
  obtain ⟨v,hv⟩:∃ v,cmpI y 0=v:=⟨_,rfl⟩
  have hv0:(v == 0)=false:=by rw [←hv]; exact cmpI_zero aS.out
  rw [hv]
  clear hv
  have aL:=hJ hb1
  obtain ⟨ca10,ca11⟩:=(HA.out.new hb1).cells
  obtain ⟨cb10,cb11⟩:=(HB.out.new hb1).cells
  clear hb1 cb0 cb1 hW
  go_wp2_with fail
  refine (dividedp_any x.natAbs y.natAbs A A' n n' c c' w1 (bB.out.new aL.out) (HY.out.2.2.new aL.out) (by omega) aR.out).mono ?_
  rintro e w2 ⟨A1,n1,c1,A2,n2,c2,rfl,hl1,hn1,hl2,hn2,hb2⟩
  have aT:=hJ hl1
  have aU:=hJ hl2
  have aY:=hJ hn2
  have aC:=hJ (aL.out.trans (hb2.mono aL.out.size))
  have hn1b:n1≤n:=by rw [←hn1,←aZ.out]; exact digs_len_mono (by decide) (Nat.div_le_self _ _)
  have hn2b:n2≤n':=by rw [←hn2,←bA.out]; exact digs_len_mono (by decide) (Nat.le_of_lt (Nat.mod_lt _ aR.out))
  obtain ⟨ca20,ca21⟩:=(HA.out.new aC.out).cells
  obtain ⟨cb20,cb21⟩:=(HB.out.new aC.out).cells
  clear hl1 hn1 hl2 hn2 hb2 ca10 ca11 cb10 cb11
  by_cases hcase:s=true∧0 < n2
  · obtain ⟨rfl,hn20⟩:=hcase
    have aI:=hJ (div_b aW.out aX.out aS.out rfl (by
      intro h0
      have:=aY.out
      rw [h0,digs_zero,List.length_nil] at this
      omega))
    have bC:=hJ (show sgn (!s') (x.natAbs / y.natAbs+1)=x / y by
      rw [←aI.out.1,show (!s')=(true != s') by cases s' <;> rfl]
      unfold sgn
      split <;> omega)
    have bD:=hJ (Nat.mod_lt x.natAbs aR.out)
    have bE:=hJ (dig_cons.2 ⟨by decide,dig_nil⟩:Dig 4294967296 [1])
    go_wp2_with fail
    have aM:=hJ (show Below w2.heap.size w2 (w2.alloc (.cells #[.int .u32 1] 183)).drew from ((Below.refl _ w2).alloc (Nat.le_refl _) _).drew)
    have bF:=hJ (show LI .u32 (w2.alloc (.cells #[.int .u32 1] 183)).drew (.slice (some ⟨w2.heap.size,0,none⟩) 1 1) [1] from (LI.own (l:=[1]) (own_lit .u32 w2 183 [1])).drew)
    have bG:=hJ (show val 4294967296 (digs 4294967296 (x.natAbs % y.natAbs))≤val 4294967296 (digs 4294967296 y.natAbs) by
      rw [val_digs (by decide),val_digs (by decide)]; exact Nat.le_of_lt bD.out)
    go_region_held3 (fun w'=>w'.cell? ⟨w.heap.size+1,1,none⟩=some (.slice A' n' c')) (first | assumption | exact cb21 | exact ((HB.out.new aC.out).new aM.out).cells.2 | go_keep)
      (first | (go_at_call 134; refine (sum_any _ [1] A1 _ n1 1 c1 1 _ (dig_digs (by decide) (x.natAbs / y.natAbs)) bE.out (aT.out.new aM.out) bF.out (by omega) (by decide)).mono ?_; rintro e w5 ⟨G5,n5,o5,rfl,hg5,hblk5,hol5,hod5,⟨hov5,hon5⟩,hb5⟩; have aJ:=hJ (aM.out.trans (hb5.mono aM.out.size)); have hB5:=hJ ((HB.out.new aC.out).new aJ.out); have hS5:=hB5.out.cells.2; have hn5:n5≤1000000:=(by omega); have bH:=hJ hov5; have bJ:=hJ hblk5; have bK:=hJ hol5; have bL:=hJ hod5; clear hov5 hon5 hol5 hblk5 hod5 hb5) | (go_at_call 135; refine (difference_any _ _ A' A2 n' n2 c' c2 _ (dig_digs (by decide) y.natAbs) (dig_digs (by decide) (x.natAbs % y.natAbs)) ((HY.out.2.2.new aC.out).new aJ.out) (aU.out.new aJ.out) (by omega) (by omega) bG.out).mono ?_; rintro e w6 ⟨G6,n6,o6,rfl,hg6,hblk6,hol6,hod6,⟨hov6,hon6⟩,hb6⟩; have hS6:=(hB5.out.new hb6).cells.2; have aO:=hJ (aC.out.trans ((aJ.out.trans (hb6.mono aJ.out.size)).mono aC.out.size)); have hn6:n6≤1000000:=(by omega); have bM:=hJ hov6; have bN:=hJ (hblk6.li0 hol6 (Nat.le_refl _)).weak; have bO:=hJ ((bJ.out.new hb6).li0 bK.out (Nat.le_refl _)).weak; have bP:=hJ hod6; clear hov6 hon6 hol6 hblk6 hod6 hb6))
    have bQ:=hJ (show sgn (!s') (val 4294967296 o5)=x / y by
      rw [bH.out,val_digs (by decide)]; exact bC.out)
    have bR:=hJ (show sgn false (val 4294967296 o6)=x % y by
      rw [bM.out,val_digs (by decide),val_digs (by decide),sgn_false]; exact aI.out.2)
    obtain ⟨ca60,ca61⟩:=(HA.out.new aO.out).cells
    obtain ⟨cb60,cb61⟩:=(HB.out.new aO.out).cells
    clear ca20 ca21 cb20 cb21 hS5 hS6
    go_wp2_with fail
    refine (signed_any (!s') _ _ n5 n5 w6 bL.out bO.out (by omega)).mono ?_
    rw [bQ.out]
    rintro e w7 ⟨s7,A7,n7,c7,rfl,hr7,hb7⟩
    have aK:=hJ hr7
    have aD:=hJ hb7
    clear hr7 hb7
    go_wp2_with fail
    refine (signed_any false _ _ n6 n6 w7 bP.out (LO.new bN.out aD.out) (by omega)).mono ?_
    rw [bR.out]
    rintro e w8 ⟨s8,A8,n8,c8,rfl,hr8,hb8⟩
    have aG:=hJ (aO.out.trans ((aD.out.trans (hb8.mono aD.out.size)).mono aO.out.size))
    have aA:=hJ (HQ.out.new aG.out)
    have aB:=hJ (HR.out.new aG.out)
    obtain ⟨q0,q1⟩:=aA.out.cells
    obtain ⟨r0,r1⟩:=aB.out.cells
    have fq0:=aA.out.frozen 0
    have fq1:=aA.out.frozen 1
    have fr0:=aB.out.frozen 0
    have fr1:=aB.out.frozen 1
    have aH:=hJ (two_storedP (code:=0) aA.out aB.out rfl rfl (by omega) (aK.out.new hb8) hr8 (HK.out.trans (aG.out.mono HK.out.size)) (by omega) (by omega))
    clear hr8 hb8
    go_wp2
    refine bodyPost_ret (results_cell3 rfl _ _ _ _ _ _ _ _ _ _ _ _ rfl rfl aH.out.1 aH.out.2.1 Tryz.underlying33 rfl W_size Tryz.underlying33 rfl W_size) rfl ?_
    exact aH.out.2.2
  · have aI:=hJ (div_a aW.out aX.out aS.out (by
      have:=aY.out
      cases s
      · exact .inl rfl
      · have h0:n2=0:=by
          rcases Nat.eq_zero_or_pos n2 with h | h
          · exact h
          · exact absurd ⟨rfl,h⟩ hcase
        rw [h0] at this
        exact .inr ((digs_nil (by decide)).1 (List.eq_nil_of_length_eq_zero this))))
    cases s
    · clear hcase
      have aV:=hJ (show sgn s' (x.natAbs / y.natAbs)=x / y by
        rw [←aI.out.1,show (false != s')=s' by cases s' <;> rfl])
      go_wp2_with fail
      refine (signed_any s' _ A1 n1 c1 w2 (dig_digs (by decide) (x.natAbs / y.natAbs)) aT.out (by omega)).mono ?_
      rw [val_digs (by decide),aV.out]
      rintro e w7 ⟨s7,A7,n7,c7,rfl,hr7,hb7⟩
      have aK:=hJ hr7
      have aD:=hJ hb7
      clear hr7 hb7
      go_wp2_with fail
      refine (signed_any false _ A2 n2 c2 w7 (dig_digs (by decide) (x.natAbs % y.natAbs)) (LO.new aU.out aD.out) (by omega)).mono ?_
      rw [val_digs (by decide),sgn_false,aI.out.2]
      rintro e w8 ⟨s8,A8,n8,c8,rfl,hr8,hb8⟩
      have aG:=hJ (aC.out.trans ((aD.out.trans (hb8.mono aD.out.size)).mono aC.out.size))
      have aA:=hJ (HQ.out.new aG.out)
      have aB:=hJ (HR.out.new aG.out)
      obtain ⟨q0,q1⟩:=aA.out.cells
      obtain ⟨r0,r1⟩:=aB.out.cells
      have fq0:=aA.out.frozen 0
      have fq1:=aA.out.frozen 1
      have fr0:=aB.out.frozen 0
      have fr1:=aB.out.frozen 1
      have aH:=hJ (two_storedP (code:=0) aA.out aB.out rfl rfl (by omega) (aK.out.new hb8) hr8 (HK.out.trans (aG.out.mono HK.out.size)) (by omega) (by omega))
      clear hr8 hb8
      go_wp2
      refine bodyPost_ret (results_cell3 rfl _ _ _ _ _ _ _ _ _ _ _ _ rfl rfl aH.out.1 aH.out.2.1 Tryz.underlying33 rfl W_size Tryz.underlying33 rfl W_size) rfl ?_
      exact aH.out.2.2
    · have hn20:¬ 0 < n2:=fun h=>hcase ⟨rfl,h⟩
      clear hcase
      have aV:=hJ (show sgn (!s') (x.natAbs / y.natAbs)=x / y by
        rw [←aI.out.1,show (true != s') = !s' by cases s' <;> rfl])
      go_wp2_with fail
      refine (signed_any (!s') _ A1 n1 c1 w2 (dig_digs (by decide) (x.natAbs / y.natAbs)) aT.out (by omega)).mono ?_
      rw [val_digs (by decide),aV.out]
      rintro e w7 ⟨s7,A7,n7,c7,rfl,hr7,hb7⟩
      have aK:=hJ hr7
      have aD:=hJ hb7
      clear hr7 hb7
      go_wp2_with fail
      refine (signed_any false _ A2 n2 c2 w7 (dig_digs (by decide) (x.natAbs % y.natAbs)) (LO.new aU.out aD.out) (by omega)).mono ?_
      rw [val_digs (by decide),sgn_false,aI.out.2]
      rintro e w8 ⟨s8,A8,n8,c8,rfl,hr8,hb8⟩
      have aG:=hJ (aC.out.trans ((aD.out.trans (hb8.mono aD.out.size)).mono aC.out.size))
      have aA:=hJ (HQ.out.new aG.out)
      have aB:=hJ (HR.out.new aG.out)
      obtain ⟨q0,q1⟩:=aA.out.cells
      obtain ⟨r0,r1⟩:=aB.out.cells
      have fq0:=aA.out.frozen 0
      have fq1:=aA.out.frozen 1
      have fr0:=aB.out.frozen 0
      have fr1:=aB.out.frozen 1
      have aH:=hJ (two_storedP (code:=0) aA.out aB.out rfl rfl (by omega) (aK.out.new hb8) hr8 (HK.out.trans (aG.out.mono HK.out.size)) (by omega) (by omega))
      clear hr8 hb8
      go_wp2
      refine bodyPost_ret (results_cell3 rfl _ _ _ _ _ _ _ _ _ _ _ _ rfl rfl aH.out.1 aH.out.2.1 Tryz.underlying33 rfl W_size Tryz.underlying33 rfl W_size) rfl ?_
      exact aH.out.2.2
end Go.Proofs.YtdgicnhadecldaaGreat
namespace Go.Proofs.YtdgicnhadecldaaGreat
set_option maxRecDepth 100000
set_option maxHeartbeats 12800000
open Go.RowKit
attribute [local go_sem ↓] Go.wp_at_zero Go.wp_at_succ


end Go.Proofs.YtdgicnhadecldaaGreat

namespace Go.Proofs.YtdgicnhadecldaaGreat
set_option maxRecDepth 100000
set_option maxHeartbeats 12800000
open Go.RowKit
attribute [local go_sem ↓] Go.wp_at_zero Go.wp_at_succ

end Go.Proofs.YtdgicnhadecldaaGreat

namespace Go.Proofs.YtdgicnhadecldaaGreat
set_option maxRecDepth 100000
set_option maxHeartbeats 12800000
open Go.RowKit
attribute [local go_sem ↓] Go.wp_at_zero Go.wp_at_succ

end Go.Proofs.YtdgicnhadecldaaGreat

namespace Go.Proofs.YtdgicnhadecldaaGreat
set_option maxRecDepth 100000
set_option maxHeartbeats 12800000
open Go.RowKit
attribute [local go_sem ↓] Go.wp_at_zero Go.wp_at_succ

end Go.Proofs.YtdgicnhadecldaaGreat

namespace Go.Proofs.YtdgicnhadecldaaGreat
set_option maxRecDepth 100000
set_option maxHeartbeats 12800000
open Go.RowKit
attribute [local go_sem ↓] Go.wp_at_zero Go.wp_at_succ

end Go.Proofs.YtdgicnhadecldaaGreat

namespace Go.Proofs.YtdgicnhadecldaaGreat
set_option maxRecDepth 100000
set_option maxHeartbeats 12800000
open Go.RowKit
attribute [local go_sem ↓] Go.wp_at_zero Go.wp_at_succ

theorem lim_two:lim=2 ^ (32*limE):=by
  unfold lim
  rw [Nat.pow_mul]
end Go.Proofs.YtdgicnhadecldaaGreat

namespace Go.Proofs.YtdgicnhadecldaaGreat
set_option maxRecDepth 100000
set_option maxHeartbeats 12800000
open Go.RowKit
attribute [local go_sem ↓] Go.wp_at_zero Go.wp_at_succ

theorem bt {a b c:World} (h1:Below a.heap.size a b) (h2:Below b.heap.size b c):Below a.heap.size a c:=h1.trans (h2.mono h1.size)
end Go.Proofs.YtdgicnhadecldaaGreat

namespace Go.Proofs.YtdgicnhadecldaaGreat
set_option maxRecDepth 100000
set_option maxHeartbeats 12800000
open Go.RowKit
attribute [local go_sem ↓] Go.wp_at_zero Go.wp_at_succ
end Go.Proofs.YtdgicnhadecldaaGreat

namespace Go.Proofs.YtdgicnhadecldaaGreat
set_option maxRecDepth 100000
set_option maxHeartbeats 12800000
open Go.RowKit
attribute [local go_sem ↓] Go.wp_at_zero Go.wp_at_succ
end Go.Proofs.YtdgicnhadecldaaGreat

namespace Go.Proofs.YtdgicnhadecldaaGreat
set_option maxRecDepth 100000
set_option maxHeartbeats 12800000
open Go.RowKit
attribute [local go_sem ↓] Go.wp_at_zero Go.wp_at_succ
theorem two_lim {x:Int} {k:Nat} (h:x.natAbs < 2 ^ k) (hk:k≤32*limE):x.natAbs < lim:=by
  rw [lim_two]
  exact Nat.lt_of_lt_of_le h (Nat.pow_le_pow_right (by decide) hk)
/-- 2 to a power, never evaluated. -/
def B2 (k:Nat):Nat:=2 ^ k
theorem B2.le {x:Int} {j k:Nat} (h:x.natAbs < B2 j) (hk:j≤k):x.natAbs < B2 k:=Nat.lt_of_lt_of_le h (Nat.pow_le_pow_right (by decide) hk)
theorem B2.lim {x:Int} {k:Nat} (h:x.natAbs < B2 k) (hk:k≤32*limE):x.natAbs < lim:=two_lim h hk
theorem nm_world {B:Nat} {a b:World} (_:Below B a b):∃ v,v=b:=⟨b,rfl⟩
theorem cmpI_same {a b:Int} (h:a=b):cmpI a b=0:=by subst h; unfold cmpI; rw [if_neg (by omega),if_neg (by omega)]
theorem cmpI_less {a b:Int} (h:a < b):cmpI a b = -1:=by unfold cmpI; rw [if_pos h]
theorem cmpI_ge {a:Int} (h:0≤a):0≤cmpI a 0:=by unfold cmpI; rw [if_neg (by omega)]; split <;> omega
end Go.Proofs.YtdgicnhadecldaaGreat
namespace Go.Proofs.YtdgicnhadecldaaGreat
set_option maxRecDepth 100000
set_option maxHeartbeats 12800000
open Go.RowKit
theorem put_some (t:List Value) (ds:List Deferred) (d:Nat) (v:Value):Act.put ⟨t.toArray,ds⟩ (some d) v=⟨(t.set d v).toArray,ds⟩:=by
  simp [Act.put]
section
variable {P:Program} {ops:Array Oper} {Q:Exit→Act→World→Prop} {md:Region.Mode} {S:World→Prop}
/-- A drawn region's beginning, by what holds behind the draw. -/
theorem whd {id:Nat} {a:Act} {w v:World} (HS:Hid (∀ w',Below w.heap.size w w'→S w')) (hv:World.drew w=v) (h:S v→wpAnyH P .any ops Q S ops.size (Array.replicate ops.size false) a v)
    (hm:P.follows .mixedOrders=true:=by kernel_rfl):(Code.region id ops true).wp P Q a w:=by
  subst hv
  exact wp_region_held_drew hm (HS.out _ (Below.refl _ _).drew) h
theorem ryy (rs:List Nat) {fuel:Nat} {listed:Array Bool} {a:Act} {w:World} (h:AllReadyH P md ops Q S fuel listed a w rs)
    (hr:Region.ready md ops listed=rs:=by kernel_rfl) (hne:rs≠[]:=by simp):wpAnyH P md ops Q S (fuel+1) listed a w:=wpAnyH_ready hr hne h
/-- One operation is taken first (the side conditions by computation). -/
theorem tk (i:Nat) (v:Value) {oi:Oper} {fuel:Nat} {listed:Array Bool} {a:Act} {w:World}
    (hy:∀ w,S w→(execOp a.eval oi).run P w=.ok (.value v) w)
    (h:wpAnyH P md ops Q S fuel (listed.setIfInBounds i true) (a.put oi.dst v) w)
    (hi:ops[i]?=some oi:=by exact rfl) (hs:Region.noSelect ops=true:=by kernel_rfl) (hf:Region.free md ops listed i=true:=by kernel_rfl) (hr:(Region.ready md ops listed).contains i=true:=by kernel_rfl)
    (hQ:∀ c a w,Q (.panic c) (a.put oi.dst v) w→Q (.panic c) a w:=by exact fun _ _ _ h=>h) (hw:Region.wanted oi (yielded ops a.tmps)=true:=by kernel_rfl) (hS:S w:=by assumption):wpAnyH P md ops Q S (fuel+1) listed a w :=
  wpAnyH_take hi hs hf hr hQ (Or.inl ⟨hw,hy⟩) hS h
theorem tq (i:Nat) {v:Value} {oi:Oper} {fuel:Nat} {listed:Array Bool} {a:Act} {w:World}
    (h:wpAnyH P md ops Q S fuel (listed.setIfInBounds i true) (a.put oi.dst v) w)
    (hi:ops[i]?=some oi:=by exact rfl) (hs:Region.noSelect ops=true:=by kernel_rfl) (hf:Region.free md ops listed i=true:=by kernel_rfl) (hr:(Region.ready md ops listed).contains i=true:=by kernel_rfl)
    (hQ:∀ c a w,Q (.panic c) (a.put oi.dst v) w→Q (.panic c) a w:=by exact fun _ _ _ h=>h) (hw:Region.wanted oi (yielded ops a.tmps)=true:=by kernel_rfl) (hS:S w:=by assumption)
    (hy:∀ w,S w→(execOp a.eval oi).run P w=.ok (.value v) w:=by intro w hSw; (try dsimp only at hSw); go_simp; all_goals (with_reducible rfl)):wpAnyH P md ops Q S (fuel+1) listed a w :=
  wpAnyH_take hi hs hf hr hQ (Or.inl ⟨hw,hy⟩) hS h
end
/-- A new name of a thing. -/
theorem nmz {α:Sort _} (a:α):∃ z,a=z:=⟨a,rfl⟩
theorem PT:(∀ (t:List Value) ds (d:Nat) (v:Value),Act.put ⟨t.toArray,ds⟩ (some d) v=⟨(t.set d v).toArray,ds⟩)∧(∀ t ds v,Act.put ⟨t,ds⟩ none v=⟨t,ds⟩)∧(∀ (α:Type) (l:List α) (i:Nat) (h:i < l.toArray.size),l.toArray[i]=l[i]'(by simpa using h))∧(∀ (α:Type) (l:List α) (x:α) (h:0 < (x :: l).length),(x :: l)[0]=x)∧(∀ (α:Type) (l:List α) (x:α) (i:Nat) (h:i+1 < (x :: l).length),(x :: l)[i+1]=l[i]'(by simpa using h))∧(∀ (α:Type) (l:List α) (i:Nat) (x:α),l.toArray.setIfInBounds i x=(l.set i x).toArray)∧(∀ (α:Type) (l:List α) (x y:α),(y :: l).set 0 x=x :: l)∧(∀ (α:Type) (l:List α) (i:Nat) (x y:α),(y :: l).set (i+1) x=y :: l.set i x):=by
  refine ⟨put_some,fun _ _ _=>rfl,?_,?_,?_,?_,?_,?_⟩ <;> intros <;> simp
end Go.Proofs.YtdgicnhadecldaaGreat
