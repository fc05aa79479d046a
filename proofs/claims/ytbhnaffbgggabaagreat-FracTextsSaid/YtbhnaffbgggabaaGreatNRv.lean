/- Contract of the reference's Parse: every text. -/
import Derived.Test.YtbhnaffbgggabaaGreatNRu
namespace Go.Proofs.YtbhnaffbgggabaaGreat
open Go.RowKit
attribute [local go_sem ↓] Go.wp_at_zero Go.wp_at_succ
attribute [local go_sem] str_get
theorem ps_bad {l : List UInt8} (hb : ¬ 5000 < l.length) (h : isNum l = false) : psV l = 0 ∧ psC l = 2 := by
 unfold psV psC
 rw [if_neg hb, if_neg hb, if_neg (by rw [h]; decide), if_neg (by rw [h]; decide)]
 exact ⟨rfl, rfl⟩
theorem bad_minus (r : List UInt8) : isNum (45 :: 48 :: r) = false := by
 have e1 : cutB (45 :: 48 :: r) = true := rfl
 have e2 : cutL (45 :: 48 :: r) = 48 :: r := rfl
 unfold isNum
 rw [e1, e2]
 rcases r with _ | ⟨b, r⟩
 ·rfl
 ·rw [isDecB_zero (by rfl) (by simp)]; rfl
theorem bad_zero (b : UInt8) (r : List UInt8) : isNum (48 :: b :: r) = false := by
 have e1 : cutB (48 :: b :: r) = false := rfl
 have e2 : cutL (48 :: b :: r) = 48 :: b :: r := rfl
 unfold isNum
 rw [e1, e2, isDecB_zero (by rfl) (by simp)]; rfl
theorem u8_ne {a : UInt8} {k : Nat} (hk : k < 256) (h : a ≠ UInt8.ofNat k) : ¬ a.toNat = k := fun e => h (UInt8.toNat_inj.1 (by rw [e]; simp; omega))
set_option maxRecDepth 100000 in
set_option maxHeartbeats 3200000 in
theorem rparse_any (l : List UInt8) (w : World) (hn : l.length ≤ 100000) :
  Calls Tryz.prog 124 #[.string ⟨l.toArray⟩] w (RetNE (psV l) (psC l) w) := by
 obtain ⟨W, hW⟩ : ∃ W, w.alloc (.cells #[.bool false, .slice none 0 0] 24) = W := ⟨_, rfl⟩
 have HK := hJ (show Below w.heap.size w W by rw [← hW]; exact (Below.refl _ w).alloc (Nat.le_refl _) _)
 have HP := hJ (show P2 24 W w.heap.size (.bool false) (.slice none 0 0) by rw [← hW]; exact P2.lit _ _ _ _)
 obtain ⟨q0, q1⟩ := HP.out.cells
 have fq0 := HP.out.frozen 0
 have fq1 := HP.out.frozen 1
 by_cases hbig : 5000 < l.length
 ·have hb' : (5000 : Int) < l.length := by omega
  have HF := hJ (show psV l = 0 ∧ psC l = 4 from ⟨if_pos hbig, if_pos hbig⟩)
  rw [HF.out.1, HF.out.2]
  go_enter Tryz.func124, Tryz.ntmps124
  go_wp2_with fail
  exact bodyPost_ret (results_cell1 rfl _ _ _ _ _ _ _ rfl (HP.out.all (.bool false) (.slice none 0 0)) Tryz.underlying24 rfl N_size) rfl (RetNE.stored (RN.zero0 W) HP.out rfl rfl HK.out (by omega) _ _)
 ·have HNB := hJ hbig
  rcases l with _ | ⟨a, r⟩
  ·have HF := hJ (ps_bad (l := []) HNB.out rfl)
   rw [HF.out.1, HF.out.2]
   go_enter Tryz.func124, Tryz.ntmps124
   go_wp2_with fail
   exact bodyPost_ret (results_cell1 rfl _ _ _ _ _ _ _ rfl (HP.out.all (.bool false) (.slice none 0 0)) Tryz.underlying24 rfl N_size) rfl (RetNE.stored (RN.zero0 W) HP.out rfl rfl HK.out (by omega) _ _)
  ·by_cases ha : a = 45
   ·subst ha
    rcases r with _ | ⟨d, r⟩
    ·have HF := hJ (ps_bad (l := [45]) HNB.out rfl)
     rw [HF.out.1, HF.out.2]
     clear hbig
     go_enter Tryz.func124, Tryz.ntmps124
     go_wp2_with fail
     exact bodyPost_ret (results_cell1 rfl _ _ _ _ _ _ _ rfl (HP.out.all (.bool false) (.slice none 0 0)) Tryz.underlying24 rfl N_size) rfl (RetNE.stored (RN.zero0 W) HP.out rfl rfl HK.out (by omega) _ _)
    ·by_cases hd : d = 48
     ·subst hd
      have HF := hJ (ps_bad (l := 45 :: 48 :: r) HNB.out (bad_minus r))
      rw [HF.out.1, HF.out.2]
      have hcut : (ByteArray.mk (45 :: 48 :: r).toArray).extract 1 (r.length + 1 + 1) = ⟨(48 :: r).toArray⟩ := cut_minus (48 :: r)
      have hb2 : ¬ (5000 : Int) < (r.length : Int) + 1 + 1 := by have := HNB.out; simp at this; omega
      have hbl : ((r.length : Int) + 1 == 0) = false := by rw [beq_eq_false_iff_ne]; omega
      clear hbig hn
      go_enter Tryz.func124, Tryz.ntmps124
      go_wp2_with fail
      exact bodyPost_ret (results_cell1 rfl _ _ _ _ _ _ _ rfl (HP.out.all (.bool false) (.slice none 0 0)) Tryz.underlying24 rfl N_size) rfl (RetNE.stored (RN.zero0 W) HP.out rfl rfl HK.out (by omega) _ _)
     ·exact rparse_core _ (d :: r) true w (.inl ⟨rfl, rfl⟩) (by simp) hbig (fun h => u8_ne (by decide) hd (by simpa using h.1))
   ·by_cases h48 : a = 48 ∧ r ≠ []
    ·obtain ⟨rfl, hr⟩ := h48
     rcases r with _ | ⟨b, r⟩
     ·exact absurd rfl hr
     ·have HF := hJ (ps_bad (l := 48 :: b :: r) HNB.out (bad_zero b r))
      rw [HF.out.1, HF.out.2]
      have hb2 : ¬ (5000 : Int) < (r.length : Int) + 1 + 1 := by have := HNB.out; simp at this; omega
      have hbl : ((r.length : Int) + 1 + 1 == 0) = false := by rw [beq_eq_false_iff_ne]; omega
      have hl1 : (1 : Int) < (r.length : Int) + 1 + 1 := by omega
      clear hbig hn ha hr
      go_enter Tryz.func124, Tryz.ntmps124
      go_wp2_with fail
      exact bodyPost_ret (results_cell1 rfl _ _ _ _ _ _ _ rfl (HP.out.all (.bool false) (.slice none 0 0)) Tryz.underlying24 rfl N_size) rfl (RetNE.stored (RN.zero0 W) HP.out rfl rfl HK.out (by omega) _ _)
    ·refine rparse_core _ (a :: r) false w (.inr ⟨rfl, rfl, fun h => u8_ne (by decide) ha (by simpa using h)⟩) (by simp) hbig (fun h => ?_)
     rcases h with ⟨h1, h2 | h2⟩
     ·cases h2
     ·refine h48 ⟨UInt8.toNat_inj.1 (by simpa using h1), ?_⟩
      rintro rfl
      simp at h2
end Go.Proofs.YtbhnaffbgggabaaGreat
