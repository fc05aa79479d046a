/-
  No cell of these rows narrows 'for every input' (looked for: loops, veiled, ifaces, maps, wideKeys, modest, calm, conditions, laid).
  DERIVED. THE GIVEN ROWS OF THIS SEAT. 13 by the template 'for every input the law returns true; each argument reads behind the call as it read before'; 0 by the template 'total and deterministic' (their statements: YtbhnaffbgggabaaGreatTotals.lean).
  GIVEN WITH THE SEED: the statements are not yours to turn. If you find one false, say at which input.
  Laid BY PROGRAM, IN A SANDBOX (cutbox-rows.mjs): the forced cells as the released guide's own fill.sh prints them over the translation ce80e34da04ffec5… (all of the seat's roots in one cut). By AI agents, Wed Nov 11 2026. No macro, syntax, notation, axiom, sorry.
-/
import Derived.Test.YtbhnaffbgggabaaGreatChecked
import GoSem.Claim
import GoSem.ClaimJoined
import GoSem.ClaimMapViews
import Derived.JoinedTies
import Derived.KernelRfl
namespace Go.Proofs.YtbhnaffbgggabaaGreat
/- THE CELL 'sum', in the pinned program and in every row, IS THE sha256 OF THE DUMP (.gsa) THAT YtbhnaffbgggabaaGreatProg.lean LOADS. Nothing in Lean hashes anything: it is a label: what it is worth is what the hold of that sum in a sandbox is worth. -/
noncomputable def Tryz.pinned : Pinned := { name := "ytbhnaffbgggabaagreat", sum := "ce80e34da04ffec5bb179a1542a20c1d2ae4da01465a994b30d8a58bce7d67da", checked := Tryz.checked }
namespace Rows
def none {H : Type} : Left H := { results := [], args := [] }

/-- 'meresmanlaw04.FracMakes': WHATEVER THE INPUT: true; the input reads as it did. -/
def fracMakesSpec : ChangeSpec := { name := "fracMakes", fn := fun _ => fun
  | [d1, d2, d3] => { results := [.lit (.bool true)], args := [d1, d2, d3] }
  | _ => none }
def fracMakesRow : OpenClaim := { program := "ytbhnaffbgggabaagreat", sum := "ce80e34da04ffec5bb179a1542a20c1d2ae4da01465a994b30d8a58bce7d67da", func := "meresman/meresmanlaw04.FracMakes", spec := "fracMakes", inPlace := ["internal/bytealg.IndexByteString", "internal/bytealg.IndexString"], unfollowed := true, recurses := true, named := ["internal/bytealg.MaxLen"], apart := false }
def FracMakesSaid : Prop := fracMakesRow.holds Tryz.pinned (OpenSpec.ofChange fracMakesSpec)

/-- ITS FALSE NEIGHBOUR: 'it returns false'. Refute it at one input. -/
def fracMakesWrong : ChangeSpec := { name := "fracMakes", fn := fun _ => fun
  | [d1, d2, d3] => { results := [.lit (.bool false)], args := [d1, d2, d3] }
  | _ => none }
def FracMakesWrongFalsely : Prop := fracMakesRow.holds Tryz.pinned (OpenSpec.ofChange fracMakesWrong)

/-- 'meresmanlaw04.FracSums': WHATEVER THE INPUT: true; the input reads as it did. -/
def fracSumsSpec : ChangeSpec := { name := "fracSums", fn := fun _ => fun
  | [d] => { results := [.lit (.bool true)], args := [d] }
  | _ => none }
def fracSumsRow : OpenClaim := { program := "ytbhnaffbgggabaagreat", sum := "ce80e34da04ffec5bb179a1542a20c1d2ae4da01465a994b30d8a58bce7d67da", func := "meresman/meresmanlaw04.FracSums", spec := "fracSums", inPlace := ["internal/bytealg.IndexByteString", "internal/bytealg.IndexString"], unfollowed := true, recurses := true, named := ["internal/bytealg.MaxLen"], apart := false }
def FracSumsSaid : Prop := fracSumsRow.holds Tryz.pinned (OpenSpec.ofChange fracSumsSpec)

/-- ITS FALSE NEIGHBOUR: 'it returns false'. Refute it at one input. -/
def fracSumsWrong : ChangeSpec := { name := "fracSums", fn := fun _ => fun
  | [d] => { results := [.lit (.bool false)], args := [d] }
  | _ => none }
def FracSumsWrongFalsely : Prop := fracSumsRow.holds Tryz.pinned (OpenSpec.ofChange fracSumsWrong)

/-- 'meresmanlaw04.FracBounds': WHATEVER THE INPUT: true; the input reads as it did. -/
def fracBoundsSpec : ChangeSpec := { name := "fracBounds", fn := fun _ => fun
  | [d1, d2, d3] => { results := [.lit (.bool true)], args := [d1, d2, d3] }
  | _ => none }
def fracBoundsRow : OpenClaim := { program := "ytbhnaffbgggabaagreat", sum := "ce80e34da04ffec5bb179a1542a20c1d2ae4da01465a994b30d8a58bce7d67da", func := "meresman/meresmanlaw04.FracBounds", spec := "fracBounds", inPlace := ["internal/bytealg.IndexByteString", "internal/bytealg.IndexString"], unfollowed := true, recurses := true, named := ["internal/bytealg.MaxLen"], apart := false }
def FracBoundsSaid : Prop := fracBoundsRow.holds Tryz.pinned (OpenSpec.ofChange fracBoundsSpec)

/-- ITS FALSE NEIGHBOUR: 'it returns false'. Refute it at one input. -/
def fracBoundsWrong : ChangeSpec := { name := "fracBounds", fn := fun _ => fun
  | [d1, d2, d3] => { results := [.lit (.bool false)], args := [d1, d2, d3] }
  | _ => none }
def FracBoundsWrongFalsely : Prop := fracBoundsRow.holds Tryz.pinned (OpenSpec.ofChange fracBoundsWrong)

/-- 'meresmanlaw04.FracOrder': WHATEVER THE INPUT: true; the input reads as it did. -/
def fracOrderSpec : ChangeSpec := { name := "fracOrder", fn := fun _ => fun
  | [d] => { results := [.lit (.bool true)], args := [d] }
  | _ => none }
def fracOrderRow : OpenClaim := { program := "ytbhnaffbgggabaagreat", sum := "ce80e34da04ffec5bb179a1542a20c1d2ae4da01465a994b30d8a58bce7d67da", func := "meresman/meresmanlaw04.FracOrder", spec := "fracOrder", inPlace := ["internal/bytealg.IndexByteString", "internal/bytealg.IndexString"], unfollowed := true, recurses := true, named := ["internal/bytealg.MaxLen"], apart := false }
def FracOrderSaid : Prop := fracOrderRow.holds Tryz.pinned (OpenSpec.ofChange fracOrderSpec)

/-- ITS FALSE NEIGHBOUR: 'it returns false'. Refute it at one input. -/
def fracOrderWrong : ChangeSpec := { name := "fracOrder", fn := fun _ => fun
  | [d] => { results := [.lit (.bool false)], args := [d] }
  | _ => none }
def FracOrderWrongFalsely : Prop := fracOrderRow.holds Tryz.pinned (OpenSpec.ofChange fracOrderWrong)

/-- 'meresmanlaw04.FracField': WHATEVER THE INPUT: true; the input reads as it did. -/
def fracFieldSpec : ChangeSpec := { name := "fracField", fn := fun _ => fun
  | [d] => { results := [.lit (.bool true)], args := [d] }
  | _ => none }
def fracFieldRow : OpenClaim := { program := "ytbhnaffbgggabaagreat", sum := "ce80e34da04ffec5bb179a1542a20c1d2ae4da01465a994b30d8a58bce7d67da", func := "meresman/meresmanlaw04.FracField", spec := "fracField", inPlace := ["internal/bytealg.IndexByteString", "internal/bytealg.IndexString"], unfollowed := true, recurses := true, named := ["internal/bytealg.MaxLen"], apart := false }
def FracFieldSaid : Prop := fracFieldRow.holds Tryz.pinned (OpenSpec.ofChange fracFieldSpec)

/-- ITS FALSE NEIGHBOUR: 'it returns false'. Refute it at one input. -/
def fracFieldWrong : ChangeSpec := { name := "fracField", fn := fun _ => fun
  | [d] => { results := [.lit (.bool false)], args := [d] }
  | _ => none }
def FracFieldWrongFalsely : Prop := fracFieldRow.holds Tryz.pinned (OpenSpec.ofChange fracFieldWrong)

/-- 'meresmanlaw04.FracTexts': WHATEVER THE INPUT: true; the input reads as it did. -/
def fracTextsSpec : ChangeSpec := { name := "fracTexts", fn := fun _ => fun
  | [d1, d2, d3, d4] => { results := [.lit (.bool true)], args := [d1, d2, d3, d4] }
  | _ => none }
def fracTextsRow : OpenClaim := { program := "ytbhnaffbgggabaagreat", sum := "ce80e34da04ffec5bb179a1542a20c1d2ae4da01465a994b30d8a58bce7d67da", func := "meresman/meresmanlaw04.FracTexts", spec := "fracTexts", inPlace := ["internal/bytealg.IndexByteString", "internal/bytealg.IndexString"], unfollowed := true, recurses := true, named := ["internal/bytealg.MaxLen"], apart := false }
def FracTextsSaid : Prop := fracTextsRow.holds Tryz.pinned (OpenSpec.ofChange fracTextsSpec)

/-- ITS FALSE NEIGHBOUR: 'it returns false'. Refute it at one input. -/
def fracTextsWrong : ChangeSpec := { name := "fracTexts", fn := fun _ => fun
  | [d1, d2, d3, d4] => { results := [.lit (.bool false)], args := [d1, d2, d3, d4] }
  | _ => none }
def FracTextsWrongFalsely : Prop := fracTextsRow.holds Tryz.pinned (OpenSpec.ofChange fracTextsWrong)

/-- 'meresmanlaw04.FracWritten': WHATEVER THE INPUT: true; the input reads as it did. -/
def fracWrittenSpec : ChangeSpec := { name := "fracWritten", fn := fun _ => fun
  | [d] => { results := [.lit (.bool true)], args := [d] }
  | _ => none }
def fracWrittenRow : OpenClaim := { program := "ytbhnaffbgggabaagreat", sum := "ce80e34da04ffec5bb179a1542a20c1d2ae4da01465a994b30d8a58bce7d67da", func := "meresman/meresmanlaw04.FracWritten", spec := "fracWritten", inPlace := ["internal/bytealg.IndexByteString", "internal/bytealg.IndexString"], unfollowed := true, recurses := true, named := ["internal/bytealg.MaxLen"], apart := false }
def FracWrittenSaid : Prop := fracWrittenRow.holds Tryz.pinned (OpenSpec.ofChange fracWrittenSpec)

/-- ITS FALSE NEIGHBOUR: 'it returns false'. Refute it at one input. -/
def fracWrittenWrong : ChangeSpec := { name := "fracWritten", fn := fun _ => fun
  | [d] => { results := [.lit (.bool false)], args := [d] }
  | _ => none }
def FracWrittenWrongFalsely : Prop := fracWrittenRow.holds Tryz.pinned (OpenSpec.ofChange fracWrittenWrong)

/-- 'meresmanlaw05.PointBytes': WHATEVER THE INPUT: true; the input reads as it did. -/
def pointBytesSpec : ChangeSpec := { name := "pointBytes", fn := fun _ => fun
  | [d1, d2, d3, d4] => { results := [.lit (.bool true)], args := [d1, d2, d3, d4] }
  | _ => none }
def pointBytesRow : OpenClaim := { program := "ytbhnaffbgggabaagreat", sum := "ce80e34da04ffec5bb179a1542a20c1d2ae4da01465a994b30d8a58bce7d67da", func := "meresman/meresmanlaw05.PointBytes", spec := "pointBytes", inPlace := ["internal/bytealg.IndexByteString", "internal/bytealg.IndexString"], unfollowed := true, recurses := true, named := ["internal/bytealg.MaxLen"], apart := false }
def PointBytesSaid : Prop := pointBytesRow.holds Tryz.pinned (OpenSpec.ofChange pointBytesSpec)

/-- ITS FALSE NEIGHBOUR: 'it returns false'. Refute it at one input. -/
def pointBytesWrong : ChangeSpec := { name := "pointBytes", fn := fun _ => fun
  | [d1, d2, d3, d4] => { results := [.lit (.bool false)], args := [d1, d2, d3, d4] }
  | _ => none }
def PointBytesWrongFalsely : Prop := pointBytesRow.holds Tryz.pinned (OpenSpec.ofChange pointBytesWrong)

/-- 'meresmanlaw06.ExactSides': WHATEVER THE INPUT: true; the input reads as it did. -/
def exactSidesSpec : ChangeSpec := { name := "exactSides", fn := fun _ => fun
  | [d] => { results := [.lit (.bool true)], args := [d] }
  | _ => none }
def exactSidesRow : OpenClaim := { program := "ytbhnaffbgggabaagreat", sum := "ce80e34da04ffec5bb179a1542a20c1d2ae4da01465a994b30d8a58bce7d67da", func := "meresman/meresmanlaw06.ExactSides", spec := "exactSides", unfollowed := true, recurses := true, apart := false }
def ExactSidesSaid : Prop := exactSidesRow.holds Tryz.pinned (OpenSpec.ofChange exactSidesSpec)

/-- ITS FALSE NEIGHBOUR: 'it returns false'. Refute it at one input. -/
def exactSidesWrong : ChangeSpec := { name := "exactSides", fn := fun _ => fun
  | [d] => { results := [.lit (.bool false)], args := [d] }
  | _ => none }
def ExactSidesWrongFalsely : Prop := exactSidesRow.holds Tryz.pinned (OpenSpec.ofChange exactSidesWrong)

/-- 'meresmanlaw06.ExactAreas': WHATEVER THE INPUT: true; the input reads as it did. -/
def exactAreasSpec : ChangeSpec := { name := "exactAreas", fn := fun _ => fun
  | [d1, d2, d3] => { results := [.lit (.bool true)], args := [d1, d2, d3] }
  | _ => none }
def exactAreasRow : OpenClaim := { program := "ytbhnaffbgggabaagreat", sum := "ce80e34da04ffec5bb179a1542a20c1d2ae4da01465a994b30d8a58bce7d67da", func := "meresman/meresmanlaw06.ExactAreas", spec := "exactAreas", unfollowed := true, recurses := true, apart := false }
def ExactAreasSaid : Prop := exactAreasRow.holds Tryz.pinned (OpenSpec.ofChange exactAreasSpec)

/-- ITS FALSE NEIGHBOUR: 'it returns false'. Refute it at one input. -/
def exactAreasWrong : ChangeSpec := { name := "exactAreas", fn := fun _ => fun
  | [d1, d2, d3] => { results := [.lit (.bool false)], args := [d1, d2, d3] }
  | _ => none }
def ExactAreasWrongFalsely : Prop := exactAreasRow.holds Tryz.pinned (OpenSpec.ofChange exactAreasWrong)

/-- 'meresmanlaw06.ExactBetween': WHATEVER THE INPUT: true; the input reads as it did. -/
def exactBetweenSpec : ChangeSpec := { name := "exactBetween", fn := fun _ => fun
  | [d] => { results := [.lit (.bool true)], args := [d] }
  | _ => none }
def exactBetweenRow : OpenClaim := { program := "ytbhnaffbgggabaagreat", sum := "ce80e34da04ffec5bb179a1542a20c1d2ae4da01465a994b30d8a58bce7d67da", func := "meresman/meresmanlaw06.ExactBetween", spec := "exactBetween", unfollowed := true, recurses := true, apart := false }
def ExactBetweenSaid : Prop := exactBetweenRow.holds Tryz.pinned (OpenSpec.ofChange exactBetweenSpec)

/-- ITS FALSE NEIGHBOUR: 'it returns false'. Refute it at one input. -/
def exactBetweenWrong : ChangeSpec := { name := "exactBetween", fn := fun _ => fun
  | [d] => { results := [.lit (.bool false)], args := [d] }
  | _ => none }
def ExactBetweenWrongFalsely : Prop := exactBetweenRow.holds Tryz.pinned (OpenSpec.ofChange exactBetweenWrong)

/-- 'meresmanlaw06.ExactTriangles': WHATEVER THE INPUT: true; the input reads as it did. -/
def exactTrianglesSpec : ChangeSpec := { name := "exactTriangles", fn := fun _ => fun
  | [d] => { results := [.lit (.bool true)], args := [d] }
  | _ => none }
def exactTrianglesRow : OpenClaim := { program := "ytbhnaffbgggabaagreat", sum := "ce80e34da04ffec5bb179a1542a20c1d2ae4da01465a994b30d8a58bce7d67da", func := "meresman/meresmanlaw06.ExactTriangles", spec := "exactTriangles", unfollowed := true, recurses := true, apart := false }
def ExactTrianglesSaid : Prop := exactTrianglesRow.holds Tryz.pinned (OpenSpec.ofChange exactTrianglesSpec)

/-- ITS FALSE NEIGHBOUR: 'it returns false'. Refute it at one input. -/
def exactTrianglesWrong : ChangeSpec := { name := "exactTriangles", fn := fun _ => fun
  | [d] => { results := [.lit (.bool false)], args := [d] }
  | _ => none }
def ExactTrianglesWrongFalsely : Prop := exactTrianglesRow.holds Tryz.pinned (OpenSpec.ofChange exactTrianglesWrong)

/-- 'meresmanlaw06.ExactScaled': WHATEVER THE INPUT: true; the input reads as it did. -/
def exactScaledSpec : ChangeSpec := { name := "exactScaled", fn := fun _ => fun
  | [d1, d2, d3, d4] => { results := [.lit (.bool true)], args := [d1, d2, d3, d4] }
  | _ => none }
def exactScaledRow : OpenClaim := { program := "ytbhnaffbgggabaagreat", sum := "ce80e34da04ffec5bb179a1542a20c1d2ae4da01465a994b30d8a58bce7d67da", func := "meresman/meresmanlaw06.ExactScaled", spec := "exactScaled", unfollowed := true, recurses := true, apart := false }
def ExactScaledSaid : Prop := exactScaledRow.holds Tryz.pinned (OpenSpec.ofChange exactScaledSpec)

/-- ITS FALSE NEIGHBOUR: 'it returns false'. Refute it at one input. -/
def exactScaledWrong : ChangeSpec := { name := "exactScaled", fn := fun _ => fun
  | [d1, d2, d3, d4] => { results := [.lit (.bool false)], args := [d1, d2, d3, d4] }
  | _ => none }
def ExactScaledWrongFalsely : Prop := exactScaledRow.holds Tryz.pinned (OpenSpec.ofChange exactScaledWrong)

/- THE SECOND FORM. 'bulk': how many values and letters a reading holds, each counted each time it is reached (what is shared counts as often as it is met; a slice's spare places count too). A statement '..UptoSaid' is the law's where the arguments, and the package variables that the reading takes, are together of bulk at most 1048576: NARROWER than '..Said'. Prove '..Said' where nothing that the law and all that it calls make is longer than what came in: it says more and counts as full. Else prove '..UptoSaid'. A law counts once. -/
mutual
def uptoBulk {H : Type} : DataW H → Nat
  | .lit (.string bytes) => bytes.length + 1
  | .lit _ => 1
  | .nil => 1
  | .ptr d => uptoBulk d + 1
  | .slice elems spare => uptoBulkAll elems + uptoBulkAll spare + 1
  | .agg parts => uptoBulkAll parts + 1
  | .iface _ d => uptoBulk d + 1
  | .map entries => uptoBulkEntries entries + 1
  | .held _ => 1
def uptoBulkAll {H : Type} : List (DataW H) → Nat
  | [] => 0
  | d :: r => uptoBulk d + uptoBulkAll r
def uptoBulkEntries {H : Type} : List (Lit × DataW H) → Nat
  | [] => 0
  | x :: r => uptoBulkEntry x + uptoBulkEntries r
def uptoBulkEntry {H : Type} : Lit × DataW H → Nat
  | (.string bytes, d) => bytes.length + uptoBulk d + 1
  | (_, d) => uptoBulk d + 1
 end
def uptoSmall : (H : Type) → List (DataW H) → Bool := fun _ ds => decide (uptoBulkAll ds ≤ 1048576)
def OpenSpec.upto (s : _root_.Go.ChangeSpec) : _root_.Go.OpenSpec := { _root_.Go.OpenSpec.ofChange s with cond := some uptoSmall }

/-- 'meresmanlaw04.FracMakes', WHERE WHAT IT READS IS OF BULK AT MOST 1048576: true; the input reads as it did. -/
def fracMakesUptoRow : OpenClaim := { program := "ytbhnaffbgggabaagreat", sum := "ce80e34da04ffec5bb179a1542a20c1d2ae4da01465a994b30d8a58bce7d67da", func := "meresman/meresmanlaw04.FracMakes", spec := "fracMakes", inPlace := ["internal/bytealg.IndexByteString", "internal/bytealg.IndexString"], unfollowed := true, recurses := true, named := ["internal/bytealg.MaxLen"], apart := false, narrowed := true }
def FracMakesUptoSaid : Prop := fracMakesUptoRow.holds Tryz.pinned (OpenSpec.upto fracMakesSpec)

/-- 'meresmanlaw04.FracSums', WHERE WHAT IT READS IS OF BULK AT MOST 1048576: true; the input reads as it did. -/
def fracSumsUptoRow : OpenClaim := { program := "ytbhnaffbgggabaagreat", sum := "ce80e34da04ffec5bb179a1542a20c1d2ae4da01465a994b30d8a58bce7d67da", func := "meresman/meresmanlaw04.FracSums", spec := "fracSums", inPlace := ["internal/bytealg.IndexByteString", "internal/bytealg.IndexString"], unfollowed := true, recurses := true, named := ["internal/bytealg.MaxLen"], apart := false, narrowed := true }
def FracSumsUptoSaid : Prop := fracSumsUptoRow.holds Tryz.pinned (OpenSpec.upto fracSumsSpec)

/-- 'meresmanlaw04.FracBounds', WHERE WHAT IT READS IS OF BULK AT MOST 1048576: true; the input reads as it did. -/
def fracBoundsUptoRow : OpenClaim := { program := "ytbhnaffbgggabaagreat", sum := "ce80e34da04ffec5bb179a1542a20c1d2ae4da01465a994b30d8a58bce7d67da", func := "meresman/meresmanlaw04.FracBounds", spec := "fracBounds", inPlace := ["internal/bytealg.IndexByteString", "internal/bytealg.IndexString"], unfollowed := true, recurses := true, named := ["internal/bytealg.MaxLen"], apart := false, narrowed := true }
def FracBoundsUptoSaid : Prop := fracBoundsUptoRow.holds Tryz.pinned (OpenSpec.upto fracBoundsSpec)

/-- 'meresmanlaw04.FracOrder', WHERE WHAT IT READS IS OF BULK AT MOST 1048576: true; the input reads as it did. -/
def fracOrderUptoRow : OpenClaim := { program := "ytbhnaffbgggabaagreat", sum := "ce80e34da04ffec5bb179a1542a20c1d2ae4da01465a994b30d8a58bce7d67da", func := "meresman/meresmanlaw04.FracOrder", spec := "fracOrder", inPlace := ["internal/bytealg.IndexByteString", "internal/bytealg.IndexString"], unfollowed := true, recurses := true, named := ["internal/bytealg.MaxLen"], apart := false, narrowed := true }
def FracOrderUptoSaid : Prop := fracOrderUptoRow.holds Tryz.pinned (OpenSpec.upto fracOrderSpec)

/-- 'meresmanlaw04.FracField', WHERE WHAT IT READS IS OF BULK AT MOST 1048576: true; the input reads as it did. -/
def fracFieldUptoRow : OpenClaim := { program := "ytbhnaffbgggabaagreat", sum := "ce80e34da04ffec5bb179a1542a20c1d2ae4da01465a994b30d8a58bce7d67da", func := "meresman/meresmanlaw04.FracField", spec := "fracField", inPlace := ["internal/bytealg.IndexByteString", "internal/bytealg.IndexString"], unfollowed := true, recurses := true, named := ["internal/bytealg.MaxLen"], apart := false, narrowed := true }
def FracFieldUptoSaid : Prop := fracFieldUptoRow.holds Tryz.pinned (OpenSpec.upto fracFieldSpec)

/-- 'meresmanlaw04.FracTexts', WHERE WHAT IT READS IS OF BULK AT MOST 1048576: true; the input reads as it did. -/
def fracTextsUptoRow : OpenClaim := { program := "ytbhnaffbgggabaagreat", sum := "ce80e34da04ffec5bb179a1542a20c1d2ae4da01465a994b30d8a58bce7d67da", func := "meresman/meresmanlaw04.FracTexts", spec := "fracTexts", inPlace := ["internal/bytealg.IndexByteString", "internal/bytealg.IndexString"], unfollowed := true, recurses := true, named := ["internal/bytealg.MaxLen"], apart := false, narrowed := true }
def FracTextsUptoSaid : Prop := fracTextsUptoRow.holds Tryz.pinned (OpenSpec.upto fracTextsSpec)

/-- 'meresmanlaw04.FracWritten', WHERE WHAT IT READS IS OF BULK AT MOST 1048576: true; the input reads as it did. -/
def fracWrittenUptoRow : OpenClaim := { program := "ytbhnaffbgggabaagreat", sum := "ce80e34da04ffec5bb179a1542a20c1d2ae4da01465a994b30d8a58bce7d67da", func := "meresman/meresmanlaw04.FracWritten", spec := "fracWritten", inPlace := ["internal/bytealg.IndexByteString", "internal/bytealg.IndexString"], unfollowed := true, recurses := true, named := ["internal/bytealg.MaxLen"], apart := false, narrowed := true }
def FracWrittenUptoSaid : Prop := fracWrittenUptoRow.holds Tryz.pinned (OpenSpec.upto fracWrittenSpec)

/-- 'meresmanlaw05.PointBytes', WHERE WHAT IT READS IS OF BULK AT MOST 1048576: true; the input reads as it did. -/
def pointBytesUptoRow : OpenClaim := { program := "ytbhnaffbgggabaagreat", sum := "ce80e34da04ffec5bb179a1542a20c1d2ae4da01465a994b30d8a58bce7d67da", func := "meresman/meresmanlaw05.PointBytes", spec := "pointBytes", inPlace := ["internal/bytealg.IndexByteString", "internal/bytealg.IndexString"], unfollowed := true, recurses := true, named := ["internal/bytealg.MaxLen"], apart := false, narrowed := true }
def PointBytesUptoSaid : Prop := pointBytesUptoRow.holds Tryz.pinned (OpenSpec.upto pointBytesSpec)

/-- 'meresmanlaw06.ExactSides', WHERE WHAT IT READS IS OF BULK AT MOST 1048576: true; the input reads as it did. -/
def exactSidesUptoRow : OpenClaim := { program := "ytbhnaffbgggabaagreat", sum := "ce80e34da04ffec5bb179a1542a20c1d2ae4da01465a994b30d8a58bce7d67da", func := "meresman/meresmanlaw06.ExactSides", spec := "exactSides", unfollowed := true, recurses := true, apart := false, narrowed := true }
def ExactSidesUptoSaid : Prop := exactSidesUptoRow.holds Tryz.pinned (OpenSpec.upto exactSidesSpec)

/-- 'meresmanlaw06.ExactAreas', WHERE WHAT IT READS IS OF BULK AT MOST 1048576: true; the input reads as it did. -/
def exactAreasUptoRow : OpenClaim := { program := "ytbhnaffbgggabaagreat", sum := "ce80e34da04ffec5bb179a1542a20c1d2ae4da01465a994b30d8a58bce7d67da", func := "meresman/meresmanlaw06.ExactAreas", spec := "exactAreas", unfollowed := true, recurses := true, apart := false, narrowed := true }
def ExactAreasUptoSaid : Prop := exactAreasUptoRow.holds Tryz.pinned (OpenSpec.upto exactAreasSpec)

/-- 'meresmanlaw06.ExactBetween', WHERE WHAT IT READS IS OF BULK AT MOST 1048576: true; the input reads as it did. -/
def exactBetweenUptoRow : OpenClaim := { program := "ytbhnaffbgggabaagreat", sum := "ce80e34da04ffec5bb179a1542a20c1d2ae4da01465a994b30d8a58bce7d67da", func := "meresman/meresmanlaw06.ExactBetween", spec := "exactBetween", unfollowed := true, recurses := true, apart := false, narrowed := true }
def ExactBetweenUptoSaid : Prop := exactBetweenUptoRow.holds Tryz.pinned (OpenSpec.upto exactBetweenSpec)

/-- 'meresmanlaw06.ExactTriangles', WHERE WHAT IT READS IS OF BULK AT MOST 1048576: true; the input reads as it did. -/
def exactTrianglesUptoRow : OpenClaim := { program := "ytbhnaffbgggabaagreat", sum := "ce80e34da04ffec5bb179a1542a20c1d2ae4da01465a994b30d8a58bce7d67da", func := "meresman/meresmanlaw06.ExactTriangles", spec := "exactTriangles", unfollowed := true, recurses := true, apart := false, narrowed := true }
def ExactTrianglesUptoSaid : Prop := exactTrianglesUptoRow.holds Tryz.pinned (OpenSpec.upto exactTrianglesSpec)

/-- 'meresmanlaw06.ExactScaled', WHERE WHAT IT READS IS OF BULK AT MOST 1048576: true; the input reads as it did. -/
def exactScaledUptoRow : OpenClaim := { program := "ytbhnaffbgggabaagreat", sum := "ce80e34da04ffec5bb179a1542a20c1d2ae4da01465a994b30d8a58bce7d67da", func := "meresman/meresmanlaw06.ExactScaled", spec := "exactScaled", unfollowed := true, recurses := true, apart := false, narrowed := true }
def ExactScaledUptoSaid : Prop := exactScaledUptoRow.holds Tryz.pinned (OpenSpec.upto exactScaledSpec)

end Rows
end Go.Proofs.YtbhnaffbgggabaaGreat
