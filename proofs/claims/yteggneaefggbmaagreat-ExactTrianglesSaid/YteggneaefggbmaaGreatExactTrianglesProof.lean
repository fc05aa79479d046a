/- For every input, ExactTriangles returns true. Conditions: none. -/
import Derived.Test.YteggneaefggbmaaGreatRows
import Derived.Test.YteggneaefggbmaaGreatTL
import Derived.WalkKit
import Derived.ProofKit
import Derived.OpenShut
import Derived.ShutString
import Derived.ChangeOld
import Derived.Below
namespace Go.Proofs.YteggneaefggbmaaGreat.exactTriangles
open Go.ChangeShapes Go.WideShapes Go.ChangeAt Go.RowKit
open Go.ChangeMaps (open_string shut_string)
set_option linter.unusedVariables false

theorem own : ownKnob Tryz.prog.godebug = none := by kernel_rfl
theorem laidOut : laidOutB Tryz.prog = true := by kernel_rfl

def IsRow (k : IntKind) (w : World) (a : Option Addr) (len cap : Nat) (zs : List Int) : Prop :=
  (a = none ∧ len = 0 ∧ cap = 0 ∧ zs = []) ∨
  ∃ x, a = some x ∧ len ≤ cap ∧ cap ≤ maxLen ∧ zs.length = cap ∧ (∀ i, i < zs.length → w.cell? (x.add i) = some (.int k (zs.getD i 0))) ∧ ∀ n ∈ zs, (Lit.int k n).wf = true

theorem walk (a0 : Option Addr) (len0 cap0 : Nat) (z0 : List Int) (w : World) (w0 : IsRow .i64 w a0 len0 cap0 z0) :
    Calls Tryz.prog 7 #[.slice a0 len0 cap0] w fun e w' => e = .returned (.bool true) ∧ Below w.heap.size w w' := by
  exact exactTriangles_law a0 len0 cap0 z0 w w0

set_option maxRecDepth 100000 in
theorem lifted (os : Os) (started : os.Started) (H : Type) (enc : TypeId × Value → H) :
    ReturnsInHanded {} Tryz.checked os 7 .any (Rows.exactTrianglesSpec.pre6 enc Tryz.prog Tryz.f7 Rows.exactTrianglesRow.domain false) (Rows.exactTrianglesSpec.post enc Tryz.prog Tryz.f7 false true false false) := by
  refine returnsInHanded_of_change (C := Tryz.checked) own started (by kernel_rfl) Tryz.func7
    (ChangeSpec.witness6 (enc := enc) (C := Tryz.checked) false ⟨#[], #[.slice none 0 0], []⟩ 8 (by kernel_rfl) (by kernel_rfl) (by kernel_rfl) (by kernel_rfl)) ?_
  intro W base args ds gs before hval0 hW hcnd _
  have hval : ∀ (j : Nat) t v, Tryz.f7.params[j]? = some t → args[j]? = some v → Value.okWide Tryz.prog W .any base t v := hval0
  have hW' := hW
  obtain ⟨p, q, hA0, hV, rfl, hfz, hnd⟩ := hW
  have hA : DataW.TrodAll enc Tryz.prog W 0 (fun _ => true) true Tryz.f7.params.toList args.toList ds p := hA0
  rw [Tryz.params7] at hA hval
  obtain ⟨v0, vs0, d0, ds0, p0, q0, hargs, rfl, rfl, h0, r0⟩ := trodAll_cons hA
  obtain ⟨rfl, rfl, rfl⟩ := trodAll_nil r0
  obtain rfl : args = #[v0] := by cases args; simp_all
  obtain ⟨rfl, rfl⟩ := trodVars_none hV
  obtain ⟨a0, len0, cap0, rfl⟩ := okWide_slice Tryz.underlying51 (hval 0 51 v0 rfl rfl)
  have k0 := h0
  have lt0 : ∀ x ∈ p0, x.block < W.heap.size := by obtain ⟨m, hm⟩ := k0; exact DataW.trod_lt m _ _ _ hm
  obtain ⟨z0, w0⟩ : ∃ zs, IsRow .i64 W a0 len0 cap0 zs := by
    obtain ⟨fuel, hf⟩ := h0
    rcases open_ints Tryz.underlying51 Tryz.underlying3 (by kernel_rfl) hf with ⟨hcs, _⟩ | ⟨x, l, c, zs, hcs, _, hl, hm, hz, _, hcell, hwz⟩
    · simp [Value.cells] at hcs
      obtain ⟨rfl, rfl, rfl⟩ := hcs
      exact ⟨[], .inl ⟨rfl, rfl, rfl, rfl⟩⟩
    · simp [Value.cells] at hcs
      obtain ⟨rfl, rfl, rfl⟩ := hcs
      exact ⟨zs, .inr ⟨_, rfl, hl, hm, by simpa using hz, hcell, hwz⟩⟩
  clear hA0 hval0
  refine (walk a0 len0 cap0 z0 W w0).mono fun e W' ⟨he, bel⟩ => ?_
  subst he
  exact ⟨_, rfl, _, _, _, [], _, [], hW', trodAll_mk1 (shut_bool Tryz.underlying4 _), (trodAll_cons_mk (Below.trod laidOut (by kernel_rfl) (of_decide_eq_true (by kernel_rfl)) k0 bel lt0) trodAll_mk0), rfl, bel.frame _, fun h => by cases h⟩

theorem both {a b : Bool} (h : a = true) (h' : b = true) : (a && b) = true := by rw [h, h']; rfl
set_option maxRecDepth 100000 in
theorem cl0 : (Rows.exactTrianglesRow.wf (OpenSpec.ofChange Rows.exactTrianglesSpec)) = true := by kernel_rfl
set_option maxRecDepth 100000 in
theorem cl1 : (laidOutB Tryz.pinned.checked.prog) = true := by kernel_rfl
set_option maxRecDepth 100000 in
theorem cl2 : (mapsRowed Tryz.pinned.checked.prog) = true := by kernel_rfl
set_option maxRecDepth 100000 in
theorem cl3 : (Tryz.f7.params.all (Tryz.pinned.checked.prog.readableRec ·)) = true := by kernel_rfl
set_option maxRecDepth 100000 in
theorem cl4 : (namedTie Tryz.pinned.checked.prog Rows.exactTrianglesRow.named Rows.exactTrianglesSpec.vars) = true := by kernel_rfl
set_option maxRecDepth 100000 in
theorem cl5 : (Rows.exactTrianglesRow.stops == []) = true := by kernel_rfl
set_option maxRecDepth 100000 in
theorem cl6 : (Tryz.pinned.checked.prog.stops == []) = true := by kernel_rfl
set_option maxRecDepth 100000 in
theorem cl7 : (Rows.exactTrianglesRow.knobs == []) = true := by kernel_rfl
set_option maxRecDepth 100000 in
theorem cl8 : (Tryz.pinned.checked.prog.stopKnobs == []) = true := by kernel_rfl
set_option maxRecDepth 100000 in
theorem cl9 : (Rows.exactTrianglesRow.inPlace == Tryz.pinned.checked.prog.inPlace (7 : FuncId)) = true := by kernel_rfl
set_option maxRecDepth 100000 in
theorem cl10 : (Rows.exactTrianglesRow.unfollowed == Tryz.pinned.checked.prog.unfollowed (7 : FuncId)) = true := by kernel_rfl
set_option maxRecDepth 100000 in
theorem cl11 : (Rows.exactTrianglesRow.recurses == Tryz.pinned.checked.prog.recurses (7 : FuncId)) = true := by kernel_rfl
set_option maxRecDepth 100000 in
theorem cl12 : (Rows.exactTrianglesRow.named == Tryz.pinned.checked.prog.varsNamed (7 : FuncId)) = true := by kernel_rfl
set_option maxRecDepth 100000 in
theorem cl13 : (Rows.exactTrianglesRow.maps == (Tryz.f7.params.toList ++ Rows.exactTrianglesSpec.plain.varTypes Tryz.pinned.checked.prog).any (Tryz.pinned.checked.prog.mapsRec ·)) = true := by kernel_rfl
set_option maxRecDepth 100000 in
theorem cl14 : (Rows.exactTrianglesRow.ifaces == (Tryz.f7.params.toList ++ Rows.exactTrianglesSpec.plain.varTypes Tryz.pinned.checked.prog).any (Tryz.pinned.checked.prog.ifacesRec ·)) = true := by kernel_rfl
set_option maxRecDepth 100000 in
theorem cl15 : (Rows.exactTrianglesRow.mapsOut == Tryz.pinned.checked.prog.mapsAmong Tryz.f7.resultTypes.toList) = true := by kernel_rfl
set_option maxRecDepth 100000 in
theorem cl16 : (Rows.exactTrianglesRow.loops == (Tryz.f7.params.toList ++ Rows.exactTrianglesSpec.plain.varTypes Tryz.pinned.checked.prog).any (Tryz.pinned.checked.prog.loopsFrom ·)) = true := by kernel_rfl
set_option maxRecDepth 100000 in
theorem cl17 : (Rows.exactTrianglesRow.wideKeys == (Tryz.f7.params.toList ++ Rows.exactTrianglesSpec.plain.varTypes Tryz.pinned.checked.prog ++ Tryz.f7.resultTypes.toList).any (Tryz.pinned.checked.prog.wideKeysFrom ·)) = true := by kernel_rfl
set_option maxRecDepth 100000 in
theorem cl18 : (Rows.exactTrianglesSpec.vars.all (Tryz.pinned.checked.prog.varReadable ·)) = true := by kernel_rfl
set_option maxRecDepth 100000 in
theorem cl19 : (Tryz.f7.resultTypes.all (fun t => Tryz.pinned.checked.prog.readableRec t && decide (t < Tryz.pinned.checked.prog.types.size))) = true := by kernel_rfl
set_option maxRecDepth 100000 in
theorem cl20 : (Rows.exactTrianglesRow.ifacesOut == Tryz.f7.resultTypes.toList.any (Tryz.pinned.checked.prog.ifacesRec ·)) = true := by kernel_rfl
set_option maxRecDepth 100000 in
theorem cl21 : (Rows.exactTrianglesRow.loopsOut == Tryz.f7.resultTypes.toList.any (Tryz.pinned.checked.prog.loopsFrom ·)) = true := by kernel_rfl
set_option maxRecDepth 100000 in
theorem cl22 : (Rows.exactTrianglesRow.plainKeys == Tryz.pinned.checked.prog.plainKeys) = true := by kernel_rfl
set_option maxRecDepth 100000 in
theorem cl23 : (Rows.exactTrianglesRow.shortTexts.isNone) = true := by kernel_rfl
set_option maxRecDepth 100000 in
theorem cl24 : (Tryz.pinned.checked.prog.stopsHeard) = true := by kernel_rfl
set_option maxRecDepth 100000 in
theorem cl25 : (Tryz.pinned.checked.prog.mayEnter) = true := by kernel_rfl
set_option maxRecDepth 100000 in
theorem cl26 : (Rows.exactTrianglesRow.lifted == Tryz.pinned.checked.prog.liftsFinal) = true := by kernel_rfl
set_option maxRecDepth 100000 in
theorem cl27 : (Tryz.pinned.checked.prog.make == some Rows.exactTrianglesRow.make) = true := by kernel_rfl
set_option maxRecDepth 100000 in
theorem cl28 : (Rows.exactTrianglesRow.kinds == (if Rows.exactTrianglesRow.domain.isEmpty then [] else Tryz.f7.params.toList.map fun t => match Tryz.pinned.checked.prog.underlying t with | some (.int k) => some k | _ => none)) = true := by kernel_rfl
set_option maxRecDepth 100000 in
theorem cl29 : (Rows.exactTrianglesRow.pinned == Rows.exactTrianglesRow.pinnedBy) = true := by kernel_rfl
set_option maxRecDepth 100000 in
theorem cl30 : (Rows.exactTrianglesRow.veiled == (Tryz.f7.params.toList ++ Rows.exactTrianglesSpec.plain.varTypes Tryz.pinned.checked.prog ++ Tryz.f7.resultTypes.toList).any (Tryz.pinned.checked.prog.veiledRec ·)) = true := by kernel_rfl
set_option maxRecDepth 100000 in
theorem cl31 : (Rows.exactTrianglesRow.veiledFits Tryz.pinned.checked.prog Tryz.f7.params.toList (Tryz.f7.params.toList ++ Rows.exactTrianglesSpec.plain.varTypes Tryz.pinned.checked.prog ++ Tryz.f7.resultTypes.toList)) = true := by kernel_rfl
set_option maxRecDepth 100000 in
theorem closed : joinedFacts Tryz.pinned.checked.prog 7 Tryz.f7 Rows.exactTrianglesSpec Rows.exactTrianglesRow = true := by
  unfold joinedFacts
  refine both ?_ cl31
  refine both ?_ cl30
  refine both ?_ cl29
  refine both ?_ cl28
  refine both ?_ cl27
  refine both ?_ cl26
  refine both ?_ cl25
  refine both ?_ cl24
  refine both ?_ cl23
  refine both ?_ cl22
  refine both ?_ cl21
  refine both ?_ cl20
  refine both ?_ cl19
  refine both ?_ cl18
  refine both ?_ cl17
  refine both ?_ cl16
  refine both ?_ cl15
  refine both ?_ cl14
  refine both ?_ cl13
  refine both ?_ cl12
  refine both ?_ cl11
  refine both ?_ cl10
  refine both ?_ cl9
  refine both ?_ cl8
  refine both ?_ cl7
  refine both ?_ cl6
  refine both ?_ cl5
  refine both ?_ cl4
  refine both ?_ cl3
  refine both ?_ cl2
  refine both ?_ cl1
  exact cl0

theorem over : Rows.exactTrianglesRow.holds Tryz.pinned (OpenSpec.ofChange Rows.exactTrianglesSpec) :=
  OpenClaim.holds_of_wide 7 Tryz.f7 rfl rfl rfl rfl rfl rfl rfl ⟨rfl, rfl, rfl, rfl, rfl⟩ rfl rfl rfl rfl rfl (by kernel_rfl) Tryz.func7 closed
    (of_decide_eq_true (by kernel_rfl)) (by unfold Func.isWrapper; first | (rw [if_pos (by decide +kernel)]; kernel_rfl) | (rw [if_neg (by decide +kernel)]; exact ⟨rfl, rfl⟩))
    (fun os started H enc _ => lifted os started H enc)

theorem proved : Rows.ExactTrianglesSaid := over
#print axioms proved
end Go.Proofs.YteggneaefggbmaaGreat.exactTriangles
