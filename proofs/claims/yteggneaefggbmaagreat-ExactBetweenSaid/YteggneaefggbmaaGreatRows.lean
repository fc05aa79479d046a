/-
  No cell of these rows narrows 'for every input' (looked for: loops, veiled, ifaces, maps, wideKeys, modest, calm, conditions, laid).
  DERIVED. THE GIVEN ROWS OF THIS SEAT. 14 by the template 'for every input the law returns true; each argument reads behind the call as it read before'; 0 by the template 'total and deterministic' (their statements: YteggneaefggbmaaGreatTotals.lean).
  GIVEN WITH THE SEED: the statements are not yours to turn. If you find one false, say at which input.
  Laid BY PROGRAM, IN A SANDBOX (cutbox-rows.mjs): the forced cells as the released guide's own fill.sh prints them over the translation 916b16c6795ca25e… (all of the seat's roots in one cut). By AI agents, Wed Nov 11 2026. No macro, syntax, notation, axiom, sorry.
-/
import Derived.Test.YteggneaefggbmaaGreatChecked
import GoSem.Claim
import GoSem.ClaimJoined
import GoSem.ClaimMapViews
import Derived.JoinedTies
import Derived.KernelRfl
namespace Go.Proofs.YteggneaefggbmaaGreat
/- THE CELL 'sum', in the pinned program and in every row, IS THE sha256 OF THE DUMP (.gsa) THAT YteggneaefggbmaaGreatProg.lean LOADS. Nothing in Lean hashes anything: it is a label: what it is worth is what the hold of that sum in a sandbox is worth. -/
noncomputable def Tryz.pinned : Pinned := { name := "yteggneaefggbmaagreat", sum := "916b16c6795ca25ec5352172f1b9a1ba723a6d56c7dd47017a715d95d884b8c8", checked := Tryz.checked }
namespace Rows
def none {H : Type} : Left H := { results := [], args := [] }

/-- 'meresmanlaw05.PointBytes': WHATEVER THE INPUT: true; the input reads as it did. -/
def pointBytesSpec : ChangeSpec := { name := "pointBytes", fn := fun _ => fun
  | [d1, d2, d3, d4] => { results := [.lit (.bool true)], args := [d1, d2, d3, d4] }
  | _ => none }
def pointBytesRow : OpenClaim := { program := "yteggneaefggbmaagreat", sum := "916b16c6795ca25ec5352172f1b9a1ba723a6d56c7dd47017a715d95d884b8c8", func := "meresman/meresmanlaw05.PointBytes", spec := "pointBytes", inPlace := ["internal/bytealg.IndexByteString", "internal/bytealg.IndexString"], unfollowed := true, recurses := true, named := ["internal/bytealg.MaxLen"], apart := false }
def PointBytesSaid : Prop := pointBytesRow.holds Tryz.pinned (OpenSpec.ofChange pointBytesSpec)

/-- ITS FALSE NEIGHBOUR: 'it returns false'. Refute it at one input. -/
def pointBytesWrong : ChangeSpec := { name := "pointBytes", fn := fun _ => fun
  | [d1, d2, d3, d4] => { results := [.lit (.bool false)], args := [d1, d2, d3, d4] }
  | _ => none }
def PointBytesWrongFalsely : Prop := pointBytesRow.holds Tryz.pinned (OpenSpec.ofChange pointBytesWrong)

/-- 'meresmanlaw06.ExactSides': WHATEVER THE INPUT: true; the input reads as it did. -/
def exactSidesSpec : ChangeSpec := { name := "exactSides", fn := fun _ => fun
  | [d] => { results := [.lit (.bool true)], args := [d] }
  | _ => none }
def exactSidesRow : OpenClaim := { program := "yteggneaefggbmaagreat", sum := "916b16c6795ca25ec5352172f1b9a1ba723a6d56c7dd47017a715d95d884b8c8", func := "meresman/meresmanlaw06.ExactSides", spec := "exactSides", unfollowed := true, recurses := true, apart := false }
def ExactSidesSaid : Prop := exactSidesRow.holds Tryz.pinned (OpenSpec.ofChange exactSidesSpec)

/-- ITS FALSE NEIGHBOUR: 'it returns false'. Refute it at one input. -/
def exactSidesWrong : ChangeSpec := { name := "exactSides", fn := fun _ => fun
  | [d] => { results := [.lit (.bool false)], args := [d] }
  | _ => none }
def ExactSidesWrongFalsely : Prop := exactSidesRow.holds Tryz.pinned (OpenSpec.ofChange exactSidesWrong)

/-- 'meresmanlaw06.ExactAreas': WHATEVER THE INPUT: true; the input reads as it did. -/
def exactAreasSpec : ChangeSpec := { name := "exactAreas", fn := fun _ => fun
  | [d1, d2, d3] => { results := [.lit (.bool true)], args := [d1, d2, d3] }
  | _ => none }
def exactAreasRow : OpenClaim := { program := "yteggneaefggbmaagreat", sum := "916b16c6795ca25ec5352172f1b9a1ba723a6d56c7dd47017a715d95d884b8c8", func := "meresman/meresmanlaw06.ExactAreas", spec := "exactAreas", unfollowed := true, recurses := true, apart := false }
def ExactAreasSaid : Prop := exactAreasRow.holds Tryz.pinned (OpenSpec.ofChange exactAreasSpec)

/-- ITS FALSE NEIGHBOUR: 'it returns false'. Refute it at one input. -/
def exactAreasWrong : ChangeSpec := { name := "exactAreas", fn := fun _ => fun
  | [d1, d2, d3] => { results := [.lit (.bool false)], args := [d1, d2, d3] }
  | _ => none }
def ExactAreasWrongFalsely : Prop := exactAreasRow.holds Tryz.pinned (OpenSpec.ofChange exactAreasWrong)

/-- 'meresmanlaw06.ExactBetween': WHATEVER THE INPUT: true; the input reads as it did. -/
def exactBetweenSpec : ChangeSpec := { name := "exactBetween", fn := fun _ => fun
  | [d] => { results := [.lit (.bool true)], args := [d] }
  | _ => none }
def exactBetweenRow : OpenClaim := { program := "yteggneaefggbmaagreat", sum := "916b16c6795ca25ec5352172f1b9a1ba723a6d56c7dd47017a715d95d884b8c8", func := "meresman/meresmanlaw06.ExactBetween", spec := "exactBetween", unfollowed := true, recurses := true, apart := false }
def ExactBetweenSaid : Prop := exactBetweenRow.holds Tryz.pinned (OpenSpec.ofChange exactBetweenSpec)

/-- ITS FALSE NEIGHBOUR: 'it returns false'. Refute it at one input. -/
def exactBetweenWrong : ChangeSpec := { name := "exactBetween", fn := fun _ => fun
  | [d] => { results := [.lit (.bool false)], args := [d] }
  | _ => none }
def ExactBetweenWrongFalsely : Prop := exactBetweenRow.holds Tryz.pinned (OpenSpec.ofChange exactBetweenWrong)

/-- 'meresmanlaw06.ExactTriangles': WHATEVER THE INPUT: true; the input reads as it did. -/
def exactTrianglesSpec : ChangeSpec := { name := "exactTriangles", fn := fun _ => fun
  | [d] => { results := [.lit (.bool true)], args := [d] }
  | _ => none }
def exactTrianglesRow : OpenClaim := { program := "yteggneaefggbmaagreat", sum := "916b16c6795ca25ec5352172f1b9a1ba723a6d56c7dd47017a715d95d884b8c8", func := "meresman/meresmanlaw06.ExactTriangles", spec := "exactTriangles", unfollowed := true, recurses := true, apart := false }
def ExactTrianglesSaid : Prop := exactTrianglesRow.holds Tryz.pinned (OpenSpec.ofChange exactTrianglesSpec)

/-- ITS FALSE NEIGHBOUR: 'it returns false'. Refute it at one input. -/
def exactTrianglesWrong : ChangeSpec := { name := "exactTriangles", fn := fun _ => fun
  | [d] => { results := [.lit (.bool false)], args := [d] }
  | _ => none }
def ExactTrianglesWrongFalsely : Prop := exactTrianglesRow.holds Tryz.pinned (OpenSpec.ofChange exactTrianglesWrong)

/-- 'meresmanlaw06.ExactScaled': WHATEVER THE INPUT: true; the input reads as it did. -/
def exactScaledSpec : ChangeSpec := { name := "exactScaled", fn := fun _ => fun
  | [d1, d2, d3, d4] => { results := [.lit (.bool true)], args := [d1, d2, d3, d4] }
  | _ => none }
def exactScaledRow : OpenClaim := { program := "yteggneaefggbmaagreat", sum := "916b16c6795ca25ec5352172f1b9a1ba723a6d56c7dd47017a715d95d884b8c8", func := "meresman/meresmanlaw06.ExactScaled", spec := "exactScaled", unfollowed := true, recurses := true, apart := false }
def ExactScaledSaid : Prop := exactScaledRow.holds Tryz.pinned (OpenSpec.ofChange exactScaledSpec)

/-- ITS FALSE NEIGHBOUR: 'it returns false'. Refute it at one input. -/
def exactScaledWrong : ChangeSpec := { name := "exactScaled", fn := fun _ => fun
  | [d1, d2, d3, d4] => { results := [.lit (.bool false)], args := [d1, d2, d3, d4] }
  | _ => none }
def ExactScaledWrongFalsely : Prop := exactScaledRow.holds Tryz.pinned (OpenSpec.ofChange exactScaledWrong)

/-- 'meresmanlaw07.CrossMeets': WHATEVER THE INPUT: true; the input reads as it did. -/
def crossMeetsSpec : ChangeSpec := { name := "crossMeets", fn := fun _ => fun
  | [d1, d2, d3] => { results := [.lit (.bool true)], args := [d1, d2, d3] }
  | _ => none }
def crossMeetsRow : OpenClaim := { program := "yteggneaefggbmaagreat", sum := "916b16c6795ca25ec5352172f1b9a1ba723a6d56c7dd47017a715d95d884b8c8", func := "meresman/meresmanlaw07.CrossMeets", spec := "crossMeets", unfollowed := true, recurses := true, apart := false }
def CrossMeetsSaid : Prop := crossMeetsRow.holds Tryz.pinned (OpenSpec.ofChange crossMeetsSpec)

/-- ITS FALSE NEIGHBOUR: 'it returns false'. Refute it at one input. -/
def crossMeetsWrong : ChangeSpec := { name := "crossMeets", fn := fun _ => fun
  | [d1, d2, d3] => { results := [.lit (.bool false)], args := [d1, d2, d3] }
  | _ => none }
def CrossMeetsWrongFalsely : Prop := crossMeetsRow.holds Tryz.pinned (OpenSpec.ofChange crossMeetsWrong)

/-- 'meresmanlaw07.CrossErrors': WHATEVER THE INPUT: true; the input reads as it did. -/
def crossErrorsSpec : ChangeSpec := { name := "crossErrors", fn := fun _ => fun
  | [d1, d2, d3, d4, d5] => { results := [.lit (.bool true)], args := [d1, d2, d3, d4, d5] }
  | _ => none }
def crossErrorsRow : OpenClaim := { program := "yteggneaefggbmaagreat", sum := "916b16c6795ca25ec5352172f1b9a1ba723a6d56c7dd47017a715d95d884b8c8", func := "meresman/meresmanlaw07.CrossErrors", spec := "crossErrors", unfollowed := true, recurses := true, apart := false }
def CrossErrorsSaid : Prop := crossErrorsRow.holds Tryz.pinned (OpenSpec.ofChange crossErrorsSpec)

/-- ITS FALSE NEIGHBOUR: 'it returns false'. Refute it at one input. -/
def crossErrorsWrong : ChangeSpec := { name := "crossErrors", fn := fun _ => fun
  | [d1, d2, d3, d4, d5] => { results := [.lit (.bool false)], args := [d1, d2, d3, d4, d5] }
  | _ => none }
def CrossErrorsWrongFalsely : Prop := crossErrorsRow.holds Tryz.pinned (OpenSpec.ofChange crossErrorsWrong)

/-- 'meresmanlaw07.CrossOn': WHATEVER THE INPUT: true; the input reads as it did. -/
def crossOnSpec : ChangeSpec := { name := "crossOn", fn := fun _ => fun
  | [d1, d2, d3, d4] => { results := [.lit (.bool true)], args := [d1, d2, d3, d4] }
  | _ => none }
def crossOnRow : OpenClaim := { program := "yteggneaefggbmaagreat", sum := "916b16c6795ca25ec5352172f1b9a1ba723a6d56c7dd47017a715d95d884b8c8", func := "meresman/meresmanlaw07.CrossOn", spec := "crossOn", unfollowed := true, recurses := true, apart := false }
def CrossOnSaid : Prop := crossOnRow.holds Tryz.pinned (OpenSpec.ofChange crossOnSpec)

/-- ITS FALSE NEIGHBOUR: 'it returns false'. Refute it at one input. -/
def crossOnWrong : ChangeSpec := { name := "crossOn", fn := fun _ => fun
  | [d1, d2, d3, d4] => { results := [.lit (.bool false)], args := [d1, d2, d3, d4] }
  | _ => none }
def CrossOnWrongFalsely : Prop := crossOnRow.holds Tryz.pinned (OpenSpec.ofChange crossOnWrong)

/-- 'meresmanlaw07.CrossParts': WHATEVER THE INPUT: true; the input reads as it did. -/
def crossPartsSpec : ChangeSpec := { name := "crossParts", fn := fun _ => fun
  | [d1, d2, d3, d4] => { results := [.lit (.bool true)], args := [d1, d2, d3, d4] }
  | _ => none }
def crossPartsRow : OpenClaim := { program := "yteggneaefggbmaagreat", sum := "916b16c6795ca25ec5352172f1b9a1ba723a6d56c7dd47017a715d95d884b8c8", func := "meresman/meresmanlaw07.CrossParts", spec := "crossParts", unfollowed := true, recurses := true, apart := false }
def CrossPartsSaid : Prop := crossPartsRow.holds Tryz.pinned (OpenSpec.ofChange crossPartsSpec)

/-- ITS FALSE NEIGHBOUR: 'it returns false'. Refute it at one input. -/
def crossPartsWrong : ChangeSpec := { name := "crossParts", fn := fun _ => fun
  | [d1, d2, d3, d4] => { results := [.lit (.bool false)], args := [d1, d2, d3, d4] }
  | _ => none }
def CrossPartsWrongFalsely : Prop := crossPartsRow.holds Tryz.pinned (OpenSpec.ofChange crossPartsWrong)

/-- 'meresmanlaw07.CrossTurned': WHATEVER THE INPUT: true; the input reads as it did. -/
def crossTurnedSpec : ChangeSpec := { name := "crossTurned", fn := fun _ => fun
  | [d1, d2, d3] => { results := [.lit (.bool true)], args := [d1, d2, d3] }
  | _ => none }
def crossTurnedRow : OpenClaim := { program := "yteggneaefggbmaagreat", sum := "916b16c6795ca25ec5352172f1b9a1ba723a6d56c7dd47017a715d95d884b8c8", func := "meresman/meresmanlaw07.CrossTurned", spec := "crossTurned", unfollowed := true, recurses := true, apart := false }
def CrossTurnedSaid : Prop := crossTurnedRow.holds Tryz.pinned (OpenSpec.ofChange crossTurnedSpec)

/-- ITS FALSE NEIGHBOUR: 'it returns false'. Refute it at one input. -/
def crossTurnedWrong : ChangeSpec := { name := "crossTurned", fn := fun _ => fun
  | [d1, d2, d3] => { results := [.lit (.bool false)], args := [d1, d2, d3] }
  | _ => none }
def CrossTurnedWrongFalsely : Prop := crossTurnedRow.holds Tryz.pinned (OpenSpec.ofChange crossTurnedWrong)

/-- 'meresmanlaw07.CrossScaled': WHATEVER THE INPUT: true; the input reads as it did. -/
def crossScaledSpec : ChangeSpec := { name := "crossScaled", fn := fun _ => fun
  | [d1, d2, d3, d4, d5, d6] => { results := [.lit (.bool true)], args := [d1, d2, d3, d4, d5, d6] }
  | _ => none }
def crossScaledRow : OpenClaim := { program := "yteggneaefggbmaagreat", sum := "916b16c6795ca25ec5352172f1b9a1ba723a6d56c7dd47017a715d95d884b8c8", func := "meresman/meresmanlaw07.CrossScaled", spec := "crossScaled", unfollowed := true, recurses := true, apart := false }
def CrossScaledSaid : Prop := crossScaledRow.holds Tryz.pinned (OpenSpec.ofChange crossScaledSpec)

/-- ITS FALSE NEIGHBOUR: 'it returns false'. Refute it at one input. -/
def crossScaledWrong : ChangeSpec := { name := "crossScaled", fn := fun _ => fun
  | [d1, d2, d3, d4, d5, d6] => { results := [.lit (.bool false)], args := [d1, d2, d3, d4, d5, d6] }
  | _ => none }
def CrossScaledWrongFalsely : Prop := crossScaledRow.holds Tryz.pinned (OpenSpec.ofChange crossScaledWrong)

/-- 'meresmanlaw07.CrossCommon': WHATEVER THE INPUT: true; the input reads as it did. -/
def crossCommonSpec : ChangeSpec := { name := "crossCommon", fn := fun _ => fun
  | [d1, d2, d3] => { results := [.lit (.bool true)], args := [d1, d2, d3] }
  | _ => none }
def crossCommonRow : OpenClaim := { program := "yteggneaefggbmaagreat", sum := "916b16c6795ca25ec5352172f1b9a1ba723a6d56c7dd47017a715d95d884b8c8", func := "meresman/meresmanlaw07.CrossCommon", spec := "crossCommon", unfollowed := true, recurses := true, apart := false }
def CrossCommonSaid : Prop := crossCommonRow.holds Tryz.pinned (OpenSpec.ofChange crossCommonSpec)

/-- ITS FALSE NEIGHBOUR: 'it returns false'. Refute it at one input. -/
def crossCommonWrong : ChangeSpec := { name := "crossCommon", fn := fun _ => fun
  | [d1, d2, d3] => { results := [.lit (.bool false)], args := [d1, d2, d3] }
  | _ => none }
def CrossCommonWrongFalsely : Prop := crossCommonRow.holds Tryz.pinned (OpenSpec.ofChange crossCommonWrong)

/-- 'meresmanlaw07.CrossBetween': WHATEVER THE INPUT: true; the input reads as it did. -/
def crossBetweenSpec : ChangeSpec := { name := "crossBetween", fn := fun _ => fun
  | [d1, d2, d3] => { results := [.lit (.bool true)], args := [d1, d2, d3] }
  | _ => none }
def crossBetweenRow : OpenClaim := { program := "yteggneaefggbmaagreat", sum := "916b16c6795ca25ec5352172f1b9a1ba723a6d56c7dd47017a715d95d884b8c8", func := "meresman/meresmanlaw07.CrossBetween", spec := "crossBetween", unfollowed := true, recurses := true, apart := false }
def CrossBetweenSaid : Prop := crossBetweenRow.holds Tryz.pinned (OpenSpec.ofChange crossBetweenSpec)

/-- ITS FALSE NEIGHBOUR: 'it returns false'. Refute it at one input. -/
def crossBetweenWrong : ChangeSpec := { name := "crossBetween", fn := fun _ => fun
  | [d1, d2, d3] => { results := [.lit (.bool false)], args := [d1, d2, d3] }
  | _ => none }
def CrossBetweenWrongFalsely : Prop := crossBetweenRow.holds Tryz.pinned (OpenSpec.ofChange crossBetweenWrong)

/- THE SECOND FORM. 'bulk': how many values and letters a reading holds, each counted each time it is reached (what is shared counts as often as it is met; a slice's spare places count too). A statement '..UptoSaid' is the law's where the arguments, and the package variables that the reading takes, are together of bulk at most 1048576: NARROWER than '..Said'. Prove '..Said' where nothing that the law and all that it calls make is longer than what came in: it says more and counts as full. Else prove '..UptoSaid'. A law counts once. -/
mutual
def uptoBulk {H : Type} : DataW H → Nat
  | .lit (.string bytes) => bytes.length + 1
  | .lit _ => 1
  | .nil => 1
  | .ptr d => uptoBulk d + 1
  | .slice elems spare => uptoBulkAll elems + uptoBulkAll spare + 1
  | .agg parts => uptoBulkAll parts + 1
  | .iface _ d => uptoBulk d + 1
  | .map entries => uptoBulkEntries entries + 1
  | .held _ => 1
def uptoBulkAll {H : Type} : List (DataW H) → Nat
  | [] => 0
  | d :: r => uptoBulk d + uptoBulkAll r
def uptoBulkEntries {H : Type} : List (Lit × DataW H) → Nat
  | [] => 0
  | x :: r => uptoBulkEntry x + uptoBulkEntries r
def uptoBulkEntry {H : Type} : Lit × DataW H → Nat
  | (.string bytes, d) => bytes.length + uptoBulk d + 1
  | (_, d) => uptoBulk d + 1
 end
def uptoSmall : (H : Type) → List (DataW H) → Bool := fun _ ds => decide (uptoBulkAll ds ≤ 1048576)
def OpenSpec.upto (s : _root_.Go.ChangeSpec) : _root_.Go.OpenSpec := { _root_.Go.OpenSpec.ofChange s with cond := some uptoSmall }

/-- 'meresmanlaw05.PointBytes', WHERE WHAT IT READS IS OF BULK AT MOST 1048576: true; the input reads as it did. -/
def pointBytesUptoRow : OpenClaim := { program := "yteggneaefggbmaagreat", sum := "916b16c6795ca25ec5352172f1b9a1ba723a6d56c7dd47017a715d95d884b8c8", func := "meresman/meresmanlaw05.PointBytes", spec := "pointBytes", inPlace := ["internal/bytealg.IndexByteString", "internal/bytealg.IndexString"], unfollowed := true, recurses := true, named := ["internal/bytealg.MaxLen"], apart := false, narrowed := true }
def PointBytesUptoSaid : Prop := pointBytesUptoRow.holds Tryz.pinned (OpenSpec.upto pointBytesSpec)

/-- 'meresmanlaw06.ExactSides', WHERE WHAT IT READS IS OF BULK AT MOST 1048576: true; the input reads as it did. -/
def exactSidesUptoRow : OpenClaim := { program := "yteggneaefggbmaagreat", sum := "916b16c6795ca25ec5352172f1b9a1ba723a6d56c7dd47017a715d95d884b8c8", func := "meresman/meresmanlaw06.ExactSides", spec := "exactSides", unfollowed := true, recurses := true, apart := false, narrowed := true }
def ExactSidesUptoSaid : Prop := exactSidesUptoRow.holds Tryz.pinned (OpenSpec.upto exactSidesSpec)

/-- 'meresmanlaw06.ExactAreas', WHERE WHAT IT READS IS OF BULK AT MOST 1048576: true; the input reads as it did. -/
def exactAreasUptoRow : OpenClaim := { program := "yteggneaefggbmaagreat", sum := "916b16c6795ca25ec5352172f1b9a1ba723a6d56c7dd47017a715d95d884b8c8", func := "meresman/meresmanlaw06.ExactAreas", spec := "exactAreas", unfollowed := true, recurses := true, apart := false, narrowed := true }
def ExactAreasUptoSaid : Prop := exactAreasUptoRow.holds Tryz.pinned (OpenSpec.upto exactAreasSpec)

/-- 'meresmanlaw06.ExactBetween', WHERE WHAT IT READS IS OF BULK AT MOST 1048576: true; the input reads as it did. -/
def exactBetweenUptoRow : OpenClaim := { program := "yteggneaefggbmaagreat", sum := "916b16c6795ca25ec5352172f1b9a1ba723a6d56c7dd47017a715d95d884b8c8", func := "meresman/meresmanlaw06.ExactBetween", spec := "exactBetween", unfollowed := true, recurses := true, apart := false, narrowed := true }
def ExactBetweenUptoSaid : Prop := exactBetweenUptoRow.holds Tryz.pinned (OpenSpec.upto exactBetweenSpec)

/-- 'meresmanlaw06.ExactTriangles', WHERE WHAT IT READS IS OF BULK AT MOST 1048576: true; the input reads as it did. -/
def exactTrianglesUptoRow : OpenClaim := { program := "yteggneaefggbmaagreat", sum := "916b16c6795ca25ec5352172f1b9a1ba723a6d56c7dd47017a715d95d884b8c8", func := "meresman/meresmanlaw06.ExactTriangles", spec := "exactTriangles", unfollowed := true, recurses := true, apart := false, narrowed := true }
def ExactTrianglesUptoSaid : Prop := exactTrianglesUptoRow.holds Tryz.pinned (OpenSpec.upto exactTrianglesSpec)

/-- 'meresmanlaw06.ExactScaled', WHERE WHAT IT READS IS OF BULK AT MOST 1048576: true; the input reads as it did. -/
def exactScaledUptoRow : OpenClaim := { program := "yteggneaefggbmaagreat", sum := "916b16c6795ca25ec5352172f1b9a1ba723a6d56c7dd47017a715d95d884b8c8", func := "meresman/meresmanlaw06.ExactScaled", spec := "exactScaled", unfollowed := true, recurses := true, apart := false, narrowed := true }
def ExactScaledUptoSaid : Prop := exactScaledUptoRow.holds Tryz.pinned (OpenSpec.upto exactScaledSpec)

/-- 'meresmanlaw07.CrossMeets', WHERE WHAT IT READS IS OF BULK AT MOST 1048576: true; the input reads as it did. -/
def crossMeetsUptoRow : OpenClaim := { program := "yteggneaefggbmaagreat", sum := "916b16c6795ca25ec5352172f1b9a1ba723a6d56c7dd47017a715d95d884b8c8", func := "meresman/meresmanlaw07.CrossMeets", spec := "crossMeets", unfollowed := true, recurses := true, apart := false, narrowed := true }
def CrossMeetsUptoSaid : Prop := crossMeetsUptoRow.holds Tryz.pinned (OpenSpec.upto crossMeetsSpec)

/-- 'meresmanlaw07.CrossErrors', WHERE WHAT IT READS IS OF BULK AT MOST 1048576: true; the input reads as it did. -/
def crossErrorsUptoRow : OpenClaim := { program := "yteggneaefggbmaagreat", sum := "916b16c6795ca25ec5352172f1b9a1ba723a6d56c7dd47017a715d95d884b8c8", func := "meresman/meresmanlaw07.CrossErrors", spec := "crossErrors", unfollowed := true, recurses := true, apart := false, narrowed := true }
def CrossErrorsUptoSaid : Prop := crossErrorsUptoRow.holds Tryz.pinned (OpenSpec.upto crossErrorsSpec)

/-- 'meresmanlaw07.CrossOn', WHERE WHAT IT READS IS OF BULK AT MOST 1048576: true; the input reads as it did. -/
def crossOnUptoRow : OpenClaim := { program := "yteggneaefggbmaagreat", sum := "916b16c6795ca25ec5352172f1b9a1ba723a6d56c7dd47017a715d95d884b8c8", func := "meresman/meresmanlaw07.CrossOn", spec := "crossOn", unfollowed := true, recurses := true, apart := false, narrowed := true }
def CrossOnUptoSaid : Prop := crossOnUptoRow.holds Tryz.pinned (OpenSpec.upto crossOnSpec)

/-- 'meresmanlaw07.CrossParts', WHERE WHAT IT READS IS OF BULK AT MOST 1048576: true; the input reads as it did. -/
def crossPartsUptoRow : OpenClaim := { program := "yteggneaefggbmaagreat", sum := "916b16c6795ca25ec5352172f1b9a1ba723a6d56c7dd47017a715d95d884b8c8", func := "meresman/meresmanlaw07.CrossParts", spec := "crossParts", unfollowed := true, recurses := true, apart := false, narrowed := true }
def CrossPartsUptoSaid : Prop := crossPartsUptoRow.holds Tryz.pinned (OpenSpec.upto crossPartsSpec)

/-- 'meresmanlaw07.CrossTurned', WHERE WHAT IT READS IS OF BULK AT MOST 1048576: true; the input reads as it did. -/
def crossTurnedUptoRow : OpenClaim := { program := "yteggneaefggbmaagreat", sum := "916b16c6795ca25ec5352172f1b9a1ba723a6d56c7dd47017a715d95d884b8c8", func := "meresman/meresmanlaw07.CrossTurned", spec := "crossTurned", unfollowed := true, recurses := true, apart := false, narrowed := true }
def CrossTurnedUptoSaid : Prop := crossTurnedUptoRow.holds Tryz.pinned (OpenSpec.upto crossTurnedSpec)

/-- 'meresmanlaw07.CrossScaled', WHERE WHAT IT READS IS OF BULK AT MOST 1048576: true; the input reads as it did. -/
def crossScaledUptoRow : OpenClaim := { program := "yteggneaefggbmaagreat", sum := "916b16c6795ca25ec5352172f1b9a1ba723a6d56c7dd47017a715d95d884b8c8", func := "meresman/meresmanlaw07.CrossScaled", spec := "crossScaled", unfollowed := true, recurses := true, apart := false, narrowed := true }
def CrossScaledUptoSaid : Prop := crossScaledUptoRow.holds Tryz.pinned (OpenSpec.upto crossScaledSpec)

/-- 'meresmanlaw07.CrossCommon', WHERE WHAT IT READS IS OF BULK AT MOST 1048576: true; the input reads as it did. -/
def crossCommonUptoRow : OpenClaim := { program := "yteggneaefggbmaagreat", sum := "916b16c6795ca25ec5352172f1b9a1ba723a6d56c7dd47017a715d95d884b8c8", func := "meresman/meresmanlaw07.CrossCommon", spec := "crossCommon", unfollowed := true, recurses := true, apart := false, narrowed := true }
def CrossCommonUptoSaid : Prop := crossCommonUptoRow.holds Tryz.pinned (OpenSpec.upto crossCommonSpec)

/-- 'meresmanlaw07.CrossBetween', WHERE WHAT IT READS IS OF BULK AT MOST 1048576: true; the input reads as it did. -/
def crossBetweenUptoRow : OpenClaim := { program := "yteggneaefggbmaagreat", sum := "916b16c6795ca25ec5352172f1b9a1ba723a6d56c7dd47017a715d95d884b8c8", func := "meresman/meresmanlaw07.CrossBetween", spec := "crossBetween", unfollowed := true, recurses := true, apart := false, narrowed := true }
def CrossBetweenUptoSaid : Prop := crossBetweenUptoRow.holds Tryz.pinned (OpenSpec.upto crossBetweenSpec)

end Rows
end Go.Proofs.YteggneaefggbmaaGreat
