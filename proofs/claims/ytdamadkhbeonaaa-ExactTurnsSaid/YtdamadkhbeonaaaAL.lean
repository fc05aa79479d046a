/- Appending to a slice of the call's own, and what the cells of its block are not. Conditions: as each statement has them. -/
import Derived.Test.YtdamadkhbeonaaaAK
namespace Go.Proofs.Ytdamadkhbeonaaa
open Go.RowKit
attribute [local go_sem ↓] Go.wp_at_zero Go.wp_at_succ
theorem zero_all {okv : Value → Bool} {z : Array Value} {n : Nat} (h : z.toList.all okv = true) : (Builtin.zeroCells z n).toList.all okv = true := by
 rw [List.all_eq_true]
 intro u hu
 unfold Builtin.zeroCells at hu
 rw [Array.mem_toList_iff, Array.mem_map] at hu
 obtain ⟨j, hj, rfl⟩ := hu
 have hj' : j < n * z.size := Array.mem_range.1 hj
 have hz : 0 < z.size := by
  rcases Nat.eq_zero_or_pos z.size with e | e
  ·rw [e] at hj'; omega
  ·exact e
 have hm : j % z.size < z.size := Nat.mod_lt _ hz
 rw [getElem!_pos z _ hm]
 exact List.all_eq_true.1 h _ (Array.mem_toList_iff.2 (Array.getElem_mem hm))
/-- A row of the call's own, all cells of whose block are of a sort. -/
def OwnR (okv : Value → Bool) (w : World) (base : Nat) (e : TypeId) (size : Nat) (v : Value) (n : Nat) (xs : List Value) : Prop :=
 w.ownsRow base e size v n xs ∧ ∀ g cur, v.ownBlock = some g → w.heap[g]? = some (.cells cur e (0, 0)) → cur.toList.all okv = true
theorem OwnR.nil (okv : Value → Bool) (w : World) (base : Nat) (e : TypeId) (size : Nat) : OwnR okv w base e size (.slice none 0 0) 0 [] :=
 ⟨World.ownsRow_nil w base e size, fun g cur h _ => by simp [Value.ownBlock] at h⟩
theorem OwnR.of_lit {okv : Value → Bool} {w : World} {base : Nat} {e : TypeId} {size g n : Nat} {cs : Array Value} (h : BX e w g cs) (hb : base ≤ g) (hm : n ≤ maxLen) (hs : cs.size = n * size) (ho : cs.toList.all okv = true) : OwnR okv w base e size (.slice (some ⟨g, 0, none⟩) n n) n cs.toList := by
 refine ⟨⟨by simpa using hs, .inr ⟨g, n, cs, rfl, hb, h, Nat.le_refl _, hm, hs, List.take_of_length_le (by rw [Array.length_toList, hs]; exact Nat.le_refl _)⟩⟩, fun g' cur hg hc => ?_⟩
 simp only [Value.ownBlock, Option.some.injEq] at hg
 subst hg
 unfold BX at h
 rw [h] at hc
 injection hc with hc
 injection hc with h1
 subst h1
 exact ho
theorem OwnR.new {okv : Value → Bool} {w w' : World} {base : Nat} {e : TypeId} {size n : Nat} {v : Value} {xs : List Value} (h : OwnR okv w base e size v n xs) (hb : Below w.heap.size w w') : OwnR okv w' base e size v n xs := by
 obtain ⟨⟨h1, h2⟩, h3⟩ := h
 refine ⟨⟨h1, ?_⟩, fun g cur hg hc => ?_⟩
 ·rcases h2 with h2 | ⟨g, cap, cur, rfl, hbg, hg, rest⟩
  ·exact .inl h2
  ·exact .inr ⟨g, cap, cur, rfl, hbg, (hb.block g (Array.getElem?_eq_some_iff.1 hg).1).trans hg, rest⟩
 ·rcases h2 with ⟨rfl, _⟩ | ⟨g', cap, cur', rfl, hbg, hg', rest⟩
  ·simp [Value.ownBlock] at hg
  ·simp only [Value.ownBlock, Option.some.injEq] at hg
   subst hg
   exact h3 g' cur rfl ((hb.block g' (Array.getElem?_eq_some_iff.1 hg').1).symm.trans hc)
theorem OwnR.far {okv : Value → Bool} {w : World} {base : Nat} {e : TypeId} {size n : Nat} {v : Value} {xs : List Value} (h : OwnR okv w base e size v n xs) {g : Nat} (hg : v.ownBlock ≠ some g) (o : Nat) (vs : List Value) : OwnR okv (sto w g o vs) base e size v n xs := by
 have hk : ∀ k, k ≠ g → (sto w g o vs).heap[k]? = w.heap[k]? := by
  intro k hk
  induction vs generalizing o w with
  | nil => rfl
  | cons u l ih =>
   have h' := Below.heap_setCell w ⟨g, o, none⟩ u k hk
   have : ∀ W : World, (sto W g (o + 1) l).heap[k]? = W.heap[k]? := by
    intro W
    clear ih h' h
    generalize o + 1 = o'
    induction l generalizing o' W with
    | nil => rfl
    | cons u' l' ih' => exact (ih' _ _).trans (Below.heap_setCell W ⟨g, o', none⟩ u' k hk)
   exact (this _).trans h'
 obtain ⟨⟨h1, h2⟩, h3⟩ := h
 refine ⟨⟨h1, ?_⟩, fun g' cur hg' hc => ?_⟩
 ·rcases h2 with h2 | ⟨g', cap, cur, rfl, hbg, hg', rest⟩
  ·exact .inl h2
  ·exact .inr ⟨g', cap, cur, rfl, hbg, (hk g' (fun e => hg (by simp [Value.ownBlock, e]))).trans hg', rest⟩
 ·exact h3 g' cur hg' ((hk g' (fun e => hg (by rw [hg', e]))).symm.trans hc)
/-- The cells that the slice has. -/
theorem OwnR.row {okv : Value → Bool} {w : World} {base : Nat} {e : TypeId} {size n : Nat} {v : Value} {xs : List Value} (h : OwnR okv w base e size v n xs) (hn : 0 < n) : ∃ g cap, v = .slice (some ⟨g, 0, none⟩) n cap ∧ base ≤ g ∧ g < w.heap.size ∧ n ≤ cap ∧ ∀ j u, xs[j]? = some u → w.cell? ⟨g, j, none⟩ = some u := by
 rcases h.1.2 with ⟨_, h0⟩ | ⟨g, cap, cur, rfl, h2, h3, h4, _, _, h5⟩
 ·omega
 ·refine ⟨g, cap, rfl, h2, (Array.getElem?_eq_some_iff.1 h3).1, h4, fun j u hu => ?_⟩
  rw [cell_of_row w g j cur e (0, 0) h3]
  rw [← h5, List.getElem?_take] at hu
  split at hu
  ·simpa using hu
  ·cases hu
/-- Behind an append: the new slice, and what it did to the memory. -/
def Grew (okv : Value → Bool) (w : World) (v : Value) (xs : List Value) (w' : World) : Prop := w.grownBy w' v.ownBlock ∧ (∀ g, v.ownBlock = some g → ∀ o u, w.cell? ⟨g, o, none⟩ = some u → okv u = true) ∧ ∀ g, v.ownBlock = some g → ∀ j u, xs[j]? = some u → w'.cell? ⟨g, j, none⟩ = some u
theorem Grew.below {okv : Value → Bool} {a w w' : World} {B base : Nat} {e : TypeId} {size n : Nat} {v : Value} {xs : List Value} (h : Below B a w) (hg : Grew okv w v xs w') (ho : OwnR okv w base e size v n xs) (hB : B ≤ base) (hs : B ≤ w.heap.size) : Below B a w' :=
 h.grown hg.1 hs (fun k hk => Nat.le_trans hB (ho.1.lt k hk).1)
theorem LO.grow {k : IntKind} {ok : Nat → Prop} {w w' : World} {v sv : Value} {ys : List Value} {l : List Nat} {okv : Value → Bool} (h : LO k ok w v l) (hg : Grew okv w sv ys w') (hn : ∀ x, okv (.int k x) = false) : LO k ok w' v l :=
 h.apart (tt := fun g => sv.ownBlock = some g) ((Kp.refl _ w).grown hg.1 (fun g e _ => e)) (fun g e _ o x hc => by have := hg.2.1 g e o _ hc; rw [hn x] at this; cases this)
theorem PIo.grow {ok : Nat → Prop} {w w' : World} {s : Bool} {A : Option Addr} {n c : Nat} {x : Int} {sv : Value} {ys : List Value} {okv : Value → Bool} (h : PIo ok w s A n c x) (hg : Grew okv w sv ys w') (hn : ∀ x, okv (.int .u32 x) = false) : PIo ok w' s A n c x := ⟨h.1, h.2.1, h.2.2.grow hg hn⟩
theorem RNo.grow {ok : Nat → Prop} {w w' : World} {s : Bool} {A : Option Addr} {n c : Nat} {x : Int} {sv : Value} {ys : List Value} {okv : Value → Bool} (h : RNo ok w s A n c x) (hg : Grew okv w sv ys w') (hn : ∀ x, okv (.int .i64 x) = false) : RNo ok w' s A n c x := ⟨h.1, h.2.1, h.2.2.grow hg hn⟩
theorem PF.grow {w w' : World} {s s' : Bool} {A A' : Option Addr} {n c n' c' : Nat} {p q : Int} {sv : Value} {ys : List Value} {okv : Value → Bool} (h : PF w s A n c s' A' n' c' p q) (hg : Grew okv w sv ys w') (hn : ∀ x, okv (.int .u32 x) = false) : PF w' s A n c s' A' n' c' p q := ⟨PIo.grow h.1 hg hn, PIo.grow h.2 hg hn⟩
theorem BX.grow {t : TypeId} {w w' : World} {b : Nat} {cs : Array Value} {sv : Value} {ys : List Value} {okv : Value → Bool} (h : BX t w b cs) (hg : Grew okv w sv ys w') (hn : sv.ownBlock ≠ some b) : BX t w' b cs := (hg.1.block b h.lt (fun e => hn e.symm)).trans h
theorem OwnR.grow {okv okv' : Value → Bool} {w w' : World} {base : Nat} {e : TypeId} {size n : Nat} {v sv : Value} {xs ys : List Value} (h : OwnR okv w base e size v n xs) (hg : Grew okv' w sv ys w') (hn : ∀ g, v.ownBlock = some g → sv.ownBlock ≠ some g) : OwnR okv w' base e size v n xs := by
 obtain ⟨⟨h1, h2⟩, h3⟩ := h
 refine ⟨⟨h1, ?_⟩, fun g cur hg' hc => ?_⟩
 ·rcases h2 with h2 | ⟨g', cap, cur, rfl, hbg, hg', rest⟩
  ·exact .inl h2
  ·exact .inr ⟨g', cap, cur, rfl, hbg, (hg.1.block g' (Array.getElem?_eq_some_iff.1 hg').1 (fun e => hn g' rfl e.symm)).trans hg', rest⟩
 ·rcases h2 with ⟨rfl, _⟩ | ⟨g', cap, cur', rfl, hbg, hg'', rest⟩
  ·simp [Value.ownBlock] at hg'
  ·simp only [Value.ownBlock, Option.some.injEq] at hg'
   subst hg'
   exact h3 g' cur rfl ((hg.1.block g' (Array.getElem?_eq_some_iff.1 hg'').1 (fun e => hn g' rfl e.symm)).symm.trans hc)
theorem run_append_okv {P : Program} (okv : Value → Bool) (w : World) (base : Nat) (t ty e : TypeId) (i : TypeInfo) (z : Value) (size bytes : Nat) (ht : P.underlying t = some (.slice e)) (hi : P.info? e = some i) (hz : i.zero = some z)
  (hsize : i.size = size) (hby : i.bytes = bytes) (hzs : z.cells.size = size) (hzo : z.cells.toList.all okv = true) (hsz : 0 < size)
  (v : Value) (n : Nat) (xs : List Value) (hown : OwnR okv w base e size v n xs)
  (a : Addr) (m c : Nat) (news : List Value) (hl : news.length = m * size) (hnews : ∀ j u, news[j]? = some u → w.cell? (a.add j) = some u) (h1 : ∀ u ∈ news, u.oneCell' = true) (hno : news.all okv = true)
  (h63 : n + m ≤ maxLen) (hbytes : (n + m) * bytes ≤ 140737488355328) (hbase : base ≤ w.heap.size) (hm : 0 < m) :
  ∃ v' w', (Builtin.append_ #[t, t] ty #[v, .slice (some a) m c]).run P w = .ok v' w' ∧ OwnR okv w' base e size v' (n + m) (xs ++ news) ∧ Grew okv w v xs w' := by
 obtain ⟨v', w', hr, h2, h3, h4⟩ := run_append_own (P := P) w base t ty e i z size bytes ht hi hz hsize hby hzs hsz v n xs hown.1 a m c news hl hnews h1 h63 hbytes hbase
 have hgr : (∀ g, v.ownBlock = some g → ∀ j u, xs[j]? = some u → w'.cell? ⟨g, j, none⟩ = some u) → Grew okv w v xs w' := by
  intro hkeep
  refine ⟨h3, fun g hg o u hu => ?_, hkeep⟩
  rcases hown.1.2 with ⟨rfl, _⟩ | ⟨g', cap, cur, rfl, _, hgg, _⟩
  ·simp [Value.ownBlock] at hg
  ·simp only [Value.ownBlock, Option.some.injEq] at hg
   subst hg
   rw [cell_of_row w g' o cur e (0, 0) hgg] at hu
   exact List.all_eq_true.1 (hown.2 g' cur rfl hgg) u (Array.mem_toList_iff.2 (Array.mem_of_getElem? hu))
 have hxl : ∀ j u, xs[j]? = some u → j < n * size := by
  intro j u hu
  have := (List.getElem?_eq_some_iff.1 hu).1
  rw [hown.1.1] at this
  exact this
 have holdc : ∀ g, v.ownBlock = some g → ∀ j u, xs[j]? = some u → w.cell? ⟨g, j, none⟩ = some u := by
  intro g hg j u hu
  have := hown.1.cells (g := g) hg j u hu
  rwa [Go.WideShapes.add_plain, Nat.zero_add] at this
 suffices hmain : (∀ g cur, v'.ownBlock = some g → w'.heap[g]? = some (.cells cur e (0, 0)) → cur.toList.all okv = true) ∧ ∀ g, v.ownBlock = some g → ∀ j u, xs[j]? = some u → w'.cell? ⟨g, j, none⟩ = some u from ⟨v', w', hr, ⟨h2, hmain.1⟩, hgr hmain.2⟩
 subst hsize
 have hsmall : n + m ≤ 9223372036854775807 := by simp only [maxLen] at h63; omega
 have hxo : ∀ g' cap cur, v = .slice (some ⟨g', 0, none⟩) n cap → w.heap[g']? = some (.cells cur e (0, 0)) → cur.toList.take (n * i.size) = xs → xs.all okv = true := by
  intro g' cap cur hv hgg ht'
  rw [← ht', List.all_eq_true]
  intro u hu
  exact List.all_eq_true.1 (hown.2 g' cur (by rw [hv]; rfl) hgg) u (List.mem_of_mem_take hu)
 rcases hown.1.2 with ⟨rfl, rfl⟩ | ⟨g', cap, cur', rfl, hbg, hgg, hnc, hcm, hcs, htake⟩
 ·have hx : xs = [] := List.eq_nil_of_length_eq_zero (by simpa using hown.1.1)
  subst hx
  have hr2 := run_append_nil (P := P) w t ty e i z ht hi hz a m c news hl hnews hm (by omega) (by rw [hby]; have hb := hbytes; simp only [Nat.zero_add] at hb; omega)
  rw [hr2] at hr
  injection hr with e1 e2
  subst e1 e2
  refine ⟨fun g cur hg hc => ?_, fun g hg => by simp [Value.ownBlock] at hg⟩
  simp only [Value.ownBlock, Option.some.injEq] at hg
  subst hg
  rw [show (w.drew.alloc (.cells (news.toArray ++ Builtin.zeroCells z.cells (grownCap w m 0 e - m)) e)).heap[w.heap.size]? = _ from heap_alloc_new w.drew _] at hc
  injection hc with hc
  injection hc with hc
  subst hc
  rw [Array.toList_append, List.all_append, hno, zero_all hzo]
  rfl
 ·by_cases hroom : n + m ≤ cap
  ·have hfit : n * i.size + news.length ≤ cur'.size := by rw [hl, hcs, ← Nat.add_mul]; exact Nat.mul_le_mul_right _ hroom
   have hr2 := run_append_room (P := P) w t ty e i ht hi g' n cap cur' hgg a m c news hl hnews h1 hroom hfit
   rw [hr2] at hr
   injection hr with e1 e2
   subst e1 e2
   refine ⟨fun g cur hg hc => ?_, fun g hg j u hu => ?_⟩
   rotate_left
   ·simp only [Value.ownBlock, Option.some.injEq] at hg
    subst hg
    have hj := hxl j u hu
    have hjc : j < cur'.size := by rw [hcs]; exact Nat.lt_of_lt_of_le hj (Nat.mul_le_mul_right _ hnc)
    rw [cell_setRow_same w g' j cur' _ e _ hgg]
    rw [← htake] at hu
    rw [List.getElem?_toArray, List.append_assoc, List.getElem?_append_left (by rw [List.length_take, Array.length_toList]; omega)]
    exact hu
   simp only [Value.ownBlock, Option.some.injEq] at hg
   subst hg
   rw [setRow_heap w g' cur' _ e _ hgg] at hc
   injection hc with hc
   injection hc with hc
   subst hc
   have hall := hown.2 g' cur' rfl hgg
   rw [List.all_append, List.all_append, hno]
   have q1 : (cur'.toList.take (n * i.size)).all okv = true := List.all_eq_true.2 fun u hu => List.all_eq_true.1 hall u (List.mem_of_mem_take hu)
   have q2 : (cur'.toList.drop (n * i.size + news.length)).all okv = true := List.all_eq_true.2 fun u hu => List.all_eq_true.1 hall u (List.mem_of_mem_drop hu)
   rw [q1, q2]
   rfl
  ·have holds : ∀ j u, xs[j]? = some u → w.cell? ((⟨g', 0, none⟩ : Addr).add j) = some u := hown.1.cells (g := g') rfl
   have hr2 := run_append_grow (P := P) w t ty e i z ht hi hz ⟨g', 0, none⟩ n cap xs hown.1.1 holds a m c news hl hnews (by omega) (by omega) (growslice_fits (by omega) (by rw [hby]; exact hbytes))
   rw [hr2] at hr
   injection hr with e1 e2
   subst e1 e2
   refine ⟨fun g cur hg hc => ?_, fun g hg j u hu => ?_⟩
   rotate_left
   ·have h0 := holdc g hg j u hu
    exact (World.cell?_of_block (heap_alloc_old w.drew _ (World.block_lt_of_cell? w _ h0))).trans h0
   simp only [Value.ownBlock, Option.some.injEq] at hg
   subst hg
   rw [show (w.drew.alloc (.cells (xs.toArray ++ news.toArray ++ Builtin.zeroCells z.cells (grownCap w (n + m) cap e - (n + m))) e)).heap[w.heap.size]? = _ from heap_alloc_new w.drew _] at hc
   injection hc with hc
   injection hc with hc
   subst hc
   rw [Array.toList_append, Array.toList_append, List.all_append, List.all_append, hno, zero_all hzo, hxo g' cap cur' rfl hgg htake]
   rfl
theorem wp_append_okv {P : Program} {w : World} {o : Oper} {a : Act} {K : Act → World → Prop} {Q : Exit → Act → World → Prop} (okv : Value → Bool) (s x : Operand) (t : TypeId)
  (ho : o.op = .call { callee := .builtin .append, args := #[s, x], argTypes := #[t, t] })
  (base : Nat) (e : TypeId) (i : TypeInfo) (z : Value) (size bytes : Nat) (ht : P.underlying t = some (.slice e)) (hi : P.info? e = some i) (hz : i.zero = some z)
  (hsize : i.size = size) (hby : i.bytes = bytes) (hzs : z.cells.size = size) (hzo : z.cells.toList.all okv = true) (hsz : 0 < size)
  (v : Value) (n : Nat) (xs : List Value) (hs : a.eval s = v) (hown : OwnR okv w base e size v n xs)
  (ad : Addr) (m c : Nat) (news : List Value) (hx : a.eval x = .slice (some ad) m c) (hl : news.length = m * size) (hnews : ∀ j u, news[j]? = some u → w.cell? (ad.add j) = some u) (h1 : ∀ u ∈ news, u.oneCell' = true) (hno : news.all okv = true)
  (h63 : n + m ≤ maxLen) (hbytes : (n + m) * bytes ≤ 140737488355328) (hbase : base ≤ w.heap.size) (hm : 0 < m)
  (h : ∀ v' w', OwnR okv w' base e size v' (n + m) (xs ++ news) → Grew okv w v xs w' → K (a.put o.dst v') w') : o.wp P a w K Q := by
 obtain ⟨v', w', hr, h2, h3⟩ := run_append_okv (P := P) okv w base t o.type e i z size bytes ht hi hz hsize hby hzs hzo hsz v n xs hown ad m c news hl hnews h1 hno h63 hbytes hbase hm
 unfold Oper.wp execOp
 simp only [ho, resolve, invoke, builtin, Sem.run_bind, Sem.run_pure, Result.andThen_ok, List.map_toArray, List.map_cons, List.map_nil, hs, hx, hr]
 exact h v' w' h2 h3
theorem wpList_append_okv {P : Program} {w : World} {ops : Array Oper} {rest : List Oper} {o : Oper} {a : Act} {Q : Exit → Act → World → Prop} (okv : Value → Bool) (hgd : o.guard = none) (s x : Operand) (t : TypeId)
  (ho : o.op = .call { callee := .builtin .append, args := #[s, x], argTypes := #[t, t] })
  (base : Nat) (e : TypeId) (i : TypeInfo) (z : Value) (size bytes : Nat) (ht : P.underlying t = some (.slice e)) (hi : P.info? e = some i) (hz : i.zero = some z)
  (hsize : i.size = size) (hby : i.bytes = bytes) (hzs : z.cells.size = size) (hzo : z.cells.toList.all okv = true) (hsz : 0 < size)
  (v : Value) (n : Nat) (xs : List Value) (hs : a.eval s = v) (hown : OwnR okv w base e size v n xs)
  (ad : Addr) (m c : Nat) (news : List Value) (hx : a.eval x = .slice (some ad) m c) (hl : news.length = m * size) (hnews : ∀ j u, news[j]? = some u → w.cell? (ad.add j) = some u) (h1 : ∀ u ∈ news, u.oneCell' = true) (hno : news.all okv = true)
  (h63 : n + m ≤ maxLen) (hbytes : (n + m) * bytes ≤ 140737488355328) (hbase : base ≤ w.heap.size) (hm : 0 < m)
  (h : ∀ v' w', OwnR okv w' base e size v' (n + m) (xs ++ news) → Grew okv w v xs w' → wpList P ops Q rest (a.put o.dst v') w') : wpList P ops Q (o :: rest) a w :=
 wpList_plain hgd fun _ hK => wp_append_okv okv s x t ho base e i z size bytes ht hi hz hsize hby hzs hzo hsz v n xs hs hown ad m c news hx hl hnews h1 hno h63 hbytes hbase hm fun v' w' h2 h3 => hK _ _ (h v' w' h2 h3)
/-- The cells of a block, as the source of an append. -/
theorem BX.news {t : TypeId} {w : World} {b : Nat} {cs : Array Value} (h : BX t w b cs) : ∀ j u, cs.toList[j]? = some u → w.cell? ((⟨b, 0, none⟩ : Addr).add j) = some u := by
 intro j u hu
 rw [Go.WideShapes.add_plain, Nat.zero_add]
 exact h.cell j (by simpa using hu)
theorem OwnR.at {okv : Value → Bool} {w : World} {base : Nat} {e : TypeId} {size n g cap : Nat} {xs : List Value} (h : OwnR okv w base e size (.slice (some ⟨g, 0, none⟩) n cap) n xs) (j : Nat) {u : Value} (hu : xs[j]? = some u) : w.cell? ⟨g, j, none⟩ = some u := by
 have := h.1.cells (g := g) rfl j u hu
 rwa [Go.WideShapes.add_plain, Nat.zero_add] at this
theorem at_own {g b n c : Nat} (h : g ≠ b) : (Value.slice (some ⟨g, 0, none⟩) n c).ownBlock ≠ some b := by
 simp only [Value.ownBlock]
 intro e
 injection e with e
 exact h e
/-- No digit of the program. -/
def noU : Value → Bool
 | .int .u32 _ => false
 | _ => true
end Go.Proofs.Ytdamadkhbeonaaa
