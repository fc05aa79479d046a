/-
  No cell of these rows narrows 'for every input' (looked for: loops, veiled, ifaces, maps, wideKeys, modest, calm, conditions, laid).
  DERIVED. THE GIVEN ROWS OF THIS SEAT. 5 by the template 'for every input the law returns true; each argument reads behind the call as it read before'; 0 by the template 'total and deterministic' (their statements: YtfmccalkfagafaaTotals.lean).
  GIVEN WITH THE SEED: the statements are not yours to turn. If you find one false, say at which input.
  Laid BY PROGRAM, IN A SANDBOX (cutbox-rows.mjs): the forced cells as the released guide's own fill.sh prints them over the translation 244cc5b0cf1731d7… (all of the seat's roots in one cut). By AI agents, Wed Nov 11 2026. No macro, syntax, notation, axiom, sorry.
-/
import Derived.Test.YtfmccalkfagafaaChecked
import GoSem.Claim
import GoSem.ClaimJoined
import GoSem.ClaimMapViews
import Derived.JoinedTies
import Derived.KernelRfl
namespace Go.Proofs.Ytfmccalkfagafaa
/- THE CELL 'sum', in the pinned program and in every row, IS THE sha256 OF THE DUMP (.gsa) THAT YtfmccalkfagafaaProg.lean LOADS. Nothing in Lean hashes anything: it is a label: what it is worth is what the hold of that sum in a sandbox is worth. -/
noncomputable def Try.pinned : Pinned := { name := "ytfmccalkfagafaa", sum := "244cc5b0cf1731d72bd14109427ce5557c3663f5aa746c76073d0cdaf0a96227", checked := Try.checked }
namespace Rows
def none {H : Type} : Left H := { results := [], args := [] }

/-- 'meresmanlaw05.PointOrder': WHATEVER THE INPUT: true; the input reads as it did. -/
def pointOrderSpec : ChangeSpec := { name := "pointOrder", fn := fun _ => fun
  | [d1, d2, d3] => { results := [.lit (.bool true)], args := [d1, d2, d3] }
  | _ => none }
def pointOrderRow : OpenClaim := { program := "ytfmccalkfagafaa", sum := "244cc5b0cf1731d72bd14109427ce5557c3663f5aa746c76073d0cdaf0a96227", func := "meresman/meresmanlaw05.PointOrder", spec := "pointOrder", unfollowed := true, recurses := true, apart := false }
def PointOrderSaid : Prop := pointOrderRow.holds Try.pinned (OpenSpec.ofChange pointOrderSpec)

/-- ITS FALSE NEIGHBOUR: 'it returns false'. Refute it at one input. -/
def pointOrderWrong : ChangeSpec := { name := "pointOrder", fn := fun _ => fun
  | [d1, d2, d3] => { results := [.lit (.bool false)], args := [d1, d2, d3] }
  | _ => none }
def PointOrderWrongFalsely : Prop := pointOrderRow.holds Try.pinned (OpenSpec.ofChange pointOrderWrong)

/-- 'meresmanlaw05.PointRound': WHATEVER THE INPUT: true; the input reads as it did. -/
def pointRoundSpec : ChangeSpec := { name := "pointRound", fn := fun _ => fun
  | [d1, d2, d3] => { results := [.lit (.bool true)], args := [d1, d2, d3] }
  | _ => none }
def pointRoundRow : OpenClaim := { program := "ytfmccalkfagafaa", sum := "244cc5b0cf1731d72bd14109427ce5557c3663f5aa746c76073d0cdaf0a96227", func := "meresman/meresmanlaw05.PointRound", spec := "pointRound", unfollowed := true, recurses := true, apart := false }
def PointRoundSaid : Prop := pointRoundRow.holds Try.pinned (OpenSpec.ofChange pointRoundSpec)

/-- ITS FALSE NEIGHBOUR: 'it returns false'. Refute it at one input. -/
def pointRoundWrong : ChangeSpec := { name := "pointRound", fn := fun _ => fun
  | [d1, d2, d3] => { results := [.lit (.bool false)], args := [d1, d2, d3] }
  | _ => none }
def PointRoundWrongFalsely : Prop := pointRoundRow.holds Try.pinned (OpenSpec.ofChange pointRoundWrong)

/-- 'meresmanlaw05.PointMid': WHATEVER THE INPUT: true; the input reads as it did. -/
def pointMidSpec : ChangeSpec := { name := "pointMid", fn := fun _ => fun
  | [d1, d2] => { results := [.lit (.bool true)], args := [d1, d2] }
  | _ => none }
def pointMidRow : OpenClaim := { program := "ytfmccalkfagafaa", sum := "244cc5b0cf1731d72bd14109427ce5557c3663f5aa746c76073d0cdaf0a96227", func := "meresman/meresmanlaw05.PointMid", spec := "pointMid", unfollowed := true, recurses := true, apart := false }
def PointMidSaid : Prop := pointMidRow.holds Try.pinned (OpenSpec.ofChange pointMidSpec)

/-- ITS FALSE NEIGHBOUR: 'it returns false'. Refute it at one input. -/
def pointMidWrong : ChangeSpec := { name := "pointMid", fn := fun _ => fun
  | [d1, d2] => { results := [.lit (.bool false)], args := [d1, d2] }
  | _ => none }
def PointMidWrongFalsely : Prop := pointMidRow.holds Try.pinned (OpenSpec.ofChange pointMidWrong)

/-- 'meresmanlaw05.PointBoxes': WHATEVER THE INPUT: true; the input reads as it did. -/
def pointBoxesSpec : ChangeSpec := { name := "pointBoxes", fn := fun _ => fun
  | [d1, d2, d3, d4, d5] => { results := [.lit (.bool true)], args := [d1, d2, d3, d4, d5] }
  | _ => none }
def pointBoxesRow : OpenClaim := { program := "ytfmccalkfagafaa", sum := "244cc5b0cf1731d72bd14109427ce5557c3663f5aa746c76073d0cdaf0a96227", func := "meresman/meresmanlaw05.PointBoxes", spec := "pointBoxes", unfollowed := true, recurses := true, apart := false }
def PointBoxesSaid : Prop := pointBoxesRow.holds Try.pinned (OpenSpec.ofChange pointBoxesSpec)

/-- ITS FALSE NEIGHBOUR: 'it returns false'. Refute it at one input. -/
def pointBoxesWrong : ChangeSpec := { name := "pointBoxes", fn := fun _ => fun
  | [d1, d2, d3, d4, d5] => { results := [.lit (.bool false)], args := [d1, d2, d3, d4, d5] }
  | _ => none }
def PointBoxesWrongFalsely : Prop := pointBoxesRow.holds Try.pinned (OpenSpec.ofChange pointBoxesWrong)

/-- 'meresmanlaw05.PointScaled': WHATEVER THE INPUT: true; the input reads as it did. -/
def pointScaledSpec : ChangeSpec := { name := "pointScaled", fn := fun _ => fun
  | [d1, d2, d3, d4, d5, d6, d7] => { results := [.lit (.bool true)], args := [d1, d2, d3, d4, d5, d6, d7] }
  | _ => none }
def pointScaledRow : OpenClaim := { program := "ytfmccalkfagafaa", sum := "244cc5b0cf1731d72bd14109427ce5557c3663f5aa746c76073d0cdaf0a96227", func := "meresman/meresmanlaw05.PointScaled", spec := "pointScaled", unfollowed := true, recurses := true, apart := false }
def PointScaledSaid : Prop := pointScaledRow.holds Try.pinned (OpenSpec.ofChange pointScaledSpec)

/-- ITS FALSE NEIGHBOUR: 'it returns false'. Refute it at one input. -/
def pointScaledWrong : ChangeSpec := { name := "pointScaled", fn := fun _ => fun
  | [d1, d2, d3, d4, d5, d6, d7] => { results := [.lit (.bool false)], args := [d1, d2, d3, d4, d5, d6, d7] }
  | _ => none }
def PointScaledWrongFalsely : Prop := pointScaledRow.holds Try.pinned (OpenSpec.ofChange pointScaledWrong)

/- THE SECOND FORM. 'bulk': how many values and letters a reading holds, each counted each time it is reached (what is shared counts as often as it is met; a slice's spare places count too). A statement '..UptoSaid' is the law's where the arguments, and the package variables that the reading takes, are together of bulk at most 1048576: NARROWER than '..Said'. Prove '..Said' where nothing that the law and all that it calls make is longer than what came in: it says more and counts as full. Else prove '..UptoSaid'. A law counts once. -/
mutual
def uptoBulk {H : Type} : DataW H → Nat
  | .lit (.string bytes) => bytes.length + 1
  | .lit _ => 1
  | .nil => 1
  | .ptr d => uptoBulk d + 1
  | .slice elems spare => uptoBulkAll elems + uptoBulkAll spare + 1
  | .agg parts => uptoBulkAll parts + 1
  | .iface _ d => uptoBulk d + 1
  | .map entries => uptoBulkEntries entries + 1
  | .held _ => 1
def uptoBulkAll {H : Type} : List (DataW H) → Nat
  | [] => 0
  | d :: r => uptoBulk d + uptoBulkAll r
def uptoBulkEntries {H : Type} : List (Lit × DataW H) → Nat
  | [] => 0
  | x :: r => uptoBulkEntry x + uptoBulkEntries r
def uptoBulkEntry {H : Type} : Lit × DataW H → Nat
  | (.string bytes, d) => bytes.length + uptoBulk d + 1
  | (_, d) => uptoBulk d + 1
 end
def uptoSmall : (H : Type) → List (DataW H) → Bool := fun _ ds => decide (uptoBulkAll ds ≤ 1048576)
def OpenSpec.upto (s : _root_.Go.ChangeSpec) : _root_.Go.OpenSpec := { _root_.Go.OpenSpec.ofChange s with cond := some uptoSmall }

/-- 'meresmanlaw05.PointOrder', WHERE WHAT IT READS IS OF BULK AT MOST 1048576: true; the input reads as it did. -/
def pointOrderUptoRow : OpenClaim := { program := "ytfmccalkfagafaa", sum := "244cc5b0cf1731d72bd14109427ce5557c3663f5aa746c76073d0cdaf0a96227", func := "meresman/meresmanlaw05.PointOrder", spec := "pointOrder", unfollowed := true, recurses := true, apart := false, narrowed := true }
def PointOrderUptoSaid : Prop := pointOrderUptoRow.holds Try.pinned (OpenSpec.upto pointOrderSpec)

/-- 'meresmanlaw05.PointRound', WHERE WHAT IT READS IS OF BULK AT MOST 1048576: true; the input reads as it did. -/
def pointRoundUptoRow : OpenClaim := { program := "ytfmccalkfagafaa", sum := "244cc5b0cf1731d72bd14109427ce5557c3663f5aa746c76073d0cdaf0a96227", func := "meresman/meresmanlaw05.PointRound", spec := "pointRound", unfollowed := true, recurses := true, apart := false, narrowed := true }
def PointRoundUptoSaid : Prop := pointRoundUptoRow.holds Try.pinned (OpenSpec.upto pointRoundSpec)

/-- 'meresmanlaw05.PointMid', WHERE WHAT IT READS IS OF BULK AT MOST 1048576: true; the input reads as it did. -/
def pointMidUptoRow : OpenClaim := { program := "ytfmccalkfagafaa", sum := "244cc5b0cf1731d72bd14109427ce5557c3663f5aa746c76073d0cdaf0a96227", func := "meresman/meresmanlaw05.PointMid", spec := "pointMid", unfollowed := true, recurses := true, apart := false, narrowed := true }
def PointMidUptoSaid : Prop := pointMidUptoRow.holds Try.pinned (OpenSpec.upto pointMidSpec)

/-- 'meresmanlaw05.PointBoxes', WHERE WHAT IT READS IS OF BULK AT MOST 1048576: true; the input reads as it did. -/
def pointBoxesUptoRow : OpenClaim := { program := "ytfmccalkfagafaa", sum := "244cc5b0cf1731d72bd14109427ce5557c3663f5aa746c76073d0cdaf0a96227", func := "meresman/meresmanlaw05.PointBoxes", spec := "pointBoxes", unfollowed := true, recurses := true, apart := false, narrowed := true }
def PointBoxesUptoSaid : Prop := pointBoxesUptoRow.holds Try.pinned (OpenSpec.upto pointBoxesSpec)

/-- 'meresmanlaw05.PointScaled', WHERE WHAT IT READS IS OF BULK AT MOST 1048576: true; the input reads as it did. -/
def pointScaledUptoRow : OpenClaim := { program := "ytfmccalkfagafaa", sum := "244cc5b0cf1731d72bd14109427ce5557c3663f5aa746c76073d0cdaf0a96227", func := "meresman/meresmanlaw05.PointScaled", spec := "pointScaled", unfollowed := true, recurses := true, apart := false, narrowed := true }
def PointScaledUptoSaid : Prop := pointScaledUptoRow.holds Try.pinned (OpenSpec.upto pointScaledSpec)

end Rows
end Go.Proofs.Ytfmccalkfagafaa
