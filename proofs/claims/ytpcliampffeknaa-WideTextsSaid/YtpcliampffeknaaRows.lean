/-
  No cell of these rows narrows 'for every input' (looked for: loops, veiled, ifaces, maps, wideKeys, modest, calm, conditions, laid).
  DERIVED. THE GIVEN ROWS OF THIS SEAT. 7 by the template 'for every input the law returns true; each argument reads behind the call as it read before'; 0 by the template 'total and deterministic' (their statements: YtpcliampffeknaaTotals.lean).
  GIVEN WITH THE SEED: the statements are not yours to turn. If you find one false, say at which input.
  Laid BY PROGRAM, IN A SANDBOX (cutbox-rows.mjs): the forced cells as the released guide's own fill.sh prints them over the translation b5a09109c0dd02d5… (all of the seat's roots in one cut). By AI agents, Wed Nov 11 2026. No macro, syntax, notation, axiom, sorry.
-/
import Derived.Test.YtpcliampffeknaaChecked
import GoSem.Claim
import GoSem.ClaimJoined
import GoSem.ClaimMapViews
import Derived.JoinedTies
import Derived.KernelRfl
namespace Go.Proofs.Ytpcliampffeknaa
/- THE CELL 'sum', in the pinned program and in every row, IS THE sha256 OF THE DUMP (.gsa) THAT YtpcliampffeknaaProg.lean LOADS. Nothing in Lean hashes anything: it is a label: what it is worth is what the hold of that sum in a sandbox is worth. -/
noncomputable def Try.pinned : Pinned := { name := "ytpcliampffeknaa", sum := "b5a09109c0dd02d5ba6f2720bcbc155fd807d071af33872ddd4f9b75f7066f3c", checked := Try.checked }
namespace Rows
def none {H : Type} : Left H := { results := [], args := [] }

/-- 'meresmanlaw03.WideTexts': WHATEVER THE INPUT: true; the input reads as it did. -/
def wideTextsSpec : ChangeSpec := { name := "wideTexts", fn := fun _ => fun
  | [d1, d2, d3, d4] => { results := [.lit (.bool true)], args := [d1, d2, d3, d4] }
  | _ => none }
def wideTextsRow : OpenClaim := { program := "ytpcliampffeknaa", sum := "b5a09109c0dd02d5ba6f2720bcbc155fd807d071af33872ddd4f9b75f7066f3c", func := "meresman/meresmanlaw03.WideTexts", spec := "wideTexts", unfollowed := true, recurses := true, apart := false }
def WideTextsSaid : Prop := wideTextsRow.holds Try.pinned (OpenSpec.ofChange wideTextsSpec)

/-- ITS FALSE NEIGHBOUR: 'it returns false'. Refute it at one input. -/
def wideTextsWrong : ChangeSpec := { name := "wideTexts", fn := fun _ => fun
  | [d1, d2, d3, d4] => { results := [.lit (.bool false)], args := [d1, d2, d3, d4] }
  | _ => none }
def WideTextsWrongFalsely : Prop := wideTextsRow.holds Try.pinned (OpenSpec.ofChange wideTextsWrong)

/-- 'meresmanlaw03.WideFrom': WHATEVER THE INPUT: true; the input reads as it did. -/
def wideFromSpec : ChangeSpec := { name := "wideFrom", fn := fun _ => fun
  | [d1, d2, d3] => { results := [.lit (.bool true)], args := [d1, d2, d3] }
  | _ => none }
def wideFromRow : OpenClaim := { program := "ytpcliampffeknaa", sum := "b5a09109c0dd02d5ba6f2720bcbc155fd807d071af33872ddd4f9b75f7066f3c", func := "meresman/meresmanlaw03.WideFrom", spec := "wideFrom", unfollowed := true, recurses := true, apart := false }
def WideFromSaid : Prop := wideFromRow.holds Try.pinned (OpenSpec.ofChange wideFromSpec)

/-- ITS FALSE NEIGHBOUR: 'it returns false'. Refute it at one input. -/
def wideFromWrong : ChangeSpec := { name := "wideFrom", fn := fun _ => fun
  | [d1, d2, d3] => { results := [.lit (.bool false)], args := [d1, d2, d3] }
  | _ => none }
def WideFromWrongFalsely : Prop := wideFromRow.holds Try.pinned (OpenSpec.ofChange wideFromWrong)

/-- 'meresmanlaw03.WideQuotients': WHATEVER THE INPUT: true; the input reads as it did. -/
def wideQuotientsSpec : ChangeSpec := { name := "wideQuotients", fn := fun _ => fun
  | [d1, d2] => { results := [.lit (.bool true)], args := [d1, d2] }
  | _ => none }
def wideQuotientsRow : OpenClaim := { program := "ytpcliampffeknaa", sum := "b5a09109c0dd02d5ba6f2720bcbc155fd807d071af33872ddd4f9b75f7066f3c", func := "meresman/meresmanlaw03.WideQuotients", spec := "wideQuotients", unfollowed := true, recurses := true, apart := false }
def WideQuotientsSaid : Prop := wideQuotientsRow.holds Try.pinned (OpenSpec.ofChange wideQuotientsSpec)

/-- ITS FALSE NEIGHBOUR: 'it returns false'. Refute it at one input. -/
def wideQuotientsWrong : ChangeSpec := { name := "wideQuotients", fn := fun _ => fun
  | [d1, d2] => { results := [.lit (.bool false)], args := [d1, d2] }
  | _ => none }
def WideQuotientsWrongFalsely : Prop := wideQuotientsRow.holds Try.pinned (OpenSpec.ofChange wideQuotientsWrong)

/-- 'meresmanlaw03.WideOrder': WHATEVER THE INPUT: true; the input reads as it did. -/
def wideOrderSpec : ChangeSpec := { name := "wideOrder", fn := fun _ => fun
  | [d1, d2] => { results := [.lit (.bool true)], args := [d1, d2] }
  | _ => none }
def wideOrderRow : OpenClaim := { program := "ytpcliampffeknaa", sum := "b5a09109c0dd02d5ba6f2720bcbc155fd807d071af33872ddd4f9b75f7066f3c", func := "meresman/meresmanlaw03.WideOrder", spec := "wideOrder", unfollowed := true, recurses := true, apart := false }
def WideOrderSaid : Prop := wideOrderRow.holds Try.pinned (OpenSpec.ofChange wideOrderSpec)

/-- ITS FALSE NEIGHBOUR: 'it returns false'. Refute it at one input. -/
def wideOrderWrong : ChangeSpec := { name := "wideOrder", fn := fun _ => fun
  | [d1, d2] => { results := [.lit (.bool false)], args := [d1, d2] }
  | _ => none }
def WideOrderWrongFalsely : Prop := wideOrderRow.holds Try.pinned (OpenSpec.ofChange wideOrderWrong)

/-- 'meresmanlaw03.WideDivisors': WHATEVER THE INPUT: true; the input reads as it did. -/
def wideDivisorsSpec : ChangeSpec := { name := "wideDivisors", fn := fun _ => fun
  | [d] => { results := [.lit (.bool true)], args := [d] }
  | _ => none }
def wideDivisorsRow : OpenClaim := { program := "ytpcliampffeknaa", sum := "b5a09109c0dd02d5ba6f2720bcbc155fd807d071af33872ddd4f9b75f7066f3c", func := "meresman/meresmanlaw03.WideDivisors", spec := "wideDivisors", unfollowed := true, recurses := true, apart := false }
def WideDivisorsSaid : Prop := wideDivisorsRow.holds Try.pinned (OpenSpec.ofChange wideDivisorsSpec)

/-- ITS FALSE NEIGHBOUR: 'it returns false'. Refute it at one input. -/
def wideDivisorsWrong : ChangeSpec := { name := "wideDivisors", fn := fun _ => fun
  | [d] => { results := [.lit (.bool false)], args := [d] }
  | _ => none }
def WideDivisorsWrongFalsely : Prop := wideDivisorsRow.holds Try.pinned (OpenSpec.ofChange wideDivisorsWrong)

/-- 'meresmanlaw03.WideRing': WHATEVER THE INPUT: true; the input reads as it did. -/
def wideRingSpec : ChangeSpec := { name := "wideRing", fn := fun _ => fun
  | [d] => { results := [.lit (.bool true)], args := [d] }
  | _ => none }
def wideRingRow : OpenClaim := { program := "ytpcliampffeknaa", sum := "b5a09109c0dd02d5ba6f2720bcbc155fd807d071af33872ddd4f9b75f7066f3c", func := "meresman/meresmanlaw03.WideRing", spec := "wideRing", unfollowed := true, recurses := true, apart := false }
def WideRingSaid : Prop := wideRingRow.holds Try.pinned (OpenSpec.ofChange wideRingSpec)

/-- ITS FALSE NEIGHBOUR: 'it returns false'. Refute it at one input. -/
def wideRingWrong : ChangeSpec := { name := "wideRing", fn := fun _ => fun
  | [d] => { results := [.lit (.bool false)], args := [d] }
  | _ => none }
def WideRingWrongFalsely : Prop := wideRingRow.holds Try.pinned (OpenSpec.ofChange wideRingWrong)

/-- 'meresmanlaw03.WideLimits': WHATEVER THE INPUT: true; the input reads as it did. -/
def wideLimitsSpec : ChangeSpec := { name := "wideLimits", fn := fun _ => fun
  | [d1, d2, d3] => { results := [.lit (.bool true)], args := [d1, d2, d3] }
  | _ => none }
def wideLimitsRow : OpenClaim := { program := "ytpcliampffeknaa", sum := "b5a09109c0dd02d5ba6f2720bcbc155fd807d071af33872ddd4f9b75f7066f3c", func := "meresman/meresmanlaw03.WideLimits", spec := "wideLimits", unfollowed := true, recurses := true, apart := false }
def WideLimitsSaid : Prop := wideLimitsRow.holds Try.pinned (OpenSpec.ofChange wideLimitsSpec)

/-- ITS FALSE NEIGHBOUR: 'it returns false'. Refute it at one input. -/
def wideLimitsWrong : ChangeSpec := { name := "wideLimits", fn := fun _ => fun
  | [d1, d2, d3] => { results := [.lit (.bool false)], args := [d1, d2, d3] }
  | _ => none }
def WideLimitsWrongFalsely : Prop := wideLimitsRow.holds Try.pinned (OpenSpec.ofChange wideLimitsWrong)

/- THE SECOND FORM. 'bulk': how many values and letters a reading holds, each counted each time it is reached (what is shared counts as often as it is met; a slice's spare places count too). A statement '..UptoSaid' is the law's where the arguments, and the package variables that the reading takes, are together of bulk at most 1048576: NARROWER than '..Said'. Prove '..Said' where nothing that the law and all that it calls make is longer than what came in: it says more and counts as full. Else prove '..UptoSaid'. A law counts once. -/
mutual
def uptoBulk {H : Type} : DataW H → Nat
  | .lit (.string bytes) => bytes.length + 1
  | .lit _ => 1
  | .nil => 1
  | .ptr d => uptoBulk d + 1
  | .slice elems spare => uptoBulkAll elems + uptoBulkAll spare + 1
  | .agg parts => uptoBulkAll parts + 1
  | .iface _ d => uptoBulk d + 1
  | .map entries => uptoBulkEntries entries + 1
  | .held _ => 1
def uptoBulkAll {H : Type} : List (DataW H) → Nat
  | [] => 0
  | d :: r => uptoBulk d + uptoBulkAll r
def uptoBulkEntries {H : Type} : List (Lit × DataW H) → Nat
  | [] => 0
  | x :: r => uptoBulkEntry x + uptoBulkEntries r
def uptoBulkEntry {H : Type} : Lit × DataW H → Nat
  | (.string bytes, d) => bytes.length + uptoBulk d + 1
  | (_, d) => uptoBulk d + 1
 end
def uptoSmall : (H : Type) → List (DataW H) → Bool := fun _ ds => decide (uptoBulkAll ds ≤ 1048576)
def OpenSpec.upto (s : _root_.Go.ChangeSpec) : _root_.Go.OpenSpec := { _root_.Go.OpenSpec.ofChange s with cond := some uptoSmall }

/-- 'meresmanlaw03.WideTexts', WHERE WHAT IT READS IS OF BULK AT MOST 1048576: true; the input reads as it did. -/
def wideTextsUptoRow : OpenClaim := { program := "ytpcliampffeknaa", sum := "b5a09109c0dd02d5ba6f2720bcbc155fd807d071af33872ddd4f9b75f7066f3c", func := "meresman/meresmanlaw03.WideTexts", spec := "wideTexts", unfollowed := true, recurses := true, apart := false, narrowed := true }
def WideTextsUptoSaid : Prop := wideTextsUptoRow.holds Try.pinned (OpenSpec.upto wideTextsSpec)

/-- 'meresmanlaw03.WideFrom', WHERE WHAT IT READS IS OF BULK AT MOST 1048576: true; the input reads as it did. -/
def wideFromUptoRow : OpenClaim := { program := "ytpcliampffeknaa", sum := "b5a09109c0dd02d5ba6f2720bcbc155fd807d071af33872ddd4f9b75f7066f3c", func := "meresman/meresmanlaw03.WideFrom", spec := "wideFrom", unfollowed := true, recurses := true, apart := false, narrowed := true }
def WideFromUptoSaid : Prop := wideFromUptoRow.holds Try.pinned (OpenSpec.upto wideFromSpec)

/-- 'meresmanlaw03.WideQuotients', WHERE WHAT IT READS IS OF BULK AT MOST 1048576: true; the input reads as it did. -/
def wideQuotientsUptoRow : OpenClaim := { program := "ytpcliampffeknaa", sum := "b5a09109c0dd02d5ba6f2720bcbc155fd807d071af33872ddd4f9b75f7066f3c", func := "meresman/meresmanlaw03.WideQuotients", spec := "wideQuotients", unfollowed := true, recurses := true, apart := false, narrowed := true }
def WideQuotientsUptoSaid : Prop := wideQuotientsUptoRow.holds Try.pinned (OpenSpec.upto wideQuotientsSpec)

/-- 'meresmanlaw03.WideOrder', WHERE WHAT IT READS IS OF BULK AT MOST 1048576: true; the input reads as it did. -/
def wideOrderUptoRow : OpenClaim := { program := "ytpcliampffeknaa", sum := "b5a09109c0dd02d5ba6f2720bcbc155fd807d071af33872ddd4f9b75f7066f3c", func := "meresman/meresmanlaw03.WideOrder", spec := "wideOrder", unfollowed := true, recurses := true, apart := false, narrowed := true }
def WideOrderUptoSaid : Prop := wideOrderUptoRow.holds Try.pinned (OpenSpec.upto wideOrderSpec)

/-- 'meresmanlaw03.WideDivisors', WHERE WHAT IT READS IS OF BULK AT MOST 1048576: true; the input reads as it did. -/
def wideDivisorsUptoRow : OpenClaim := { program := "ytpcliampffeknaa", sum := "b5a09109c0dd02d5ba6f2720bcbc155fd807d071af33872ddd4f9b75f7066f3c", func := "meresman/meresmanlaw03.WideDivisors", spec := "wideDivisors", unfollowed := true, recurses := true, apart := false, narrowed := true }
def WideDivisorsUptoSaid : Prop := wideDivisorsUptoRow.holds Try.pinned (OpenSpec.upto wideDivisorsSpec)

/-- 'meresmanlaw03.WideRing', WHERE WHAT IT READS IS OF BULK AT MOST 1048576: true; the input reads as it did. -/
def wideRingUptoRow : OpenClaim := { program := "ytpcliampffeknaa", sum := "b5a09109c0dd02d5ba6f2720bcbc155fd807d071af33872ddd4f9b75f7066f3c", func := "meresman/meresmanlaw03.WideRing", spec := "wideRing", unfollowed := true, recurses := true, apart := false, narrowed := true }
def WideRingUptoSaid : Prop := wideRingUptoRow.holds Try.pinned (OpenSpec.upto wideRingSpec)

/-- 'meresmanlaw03.WideLimits', WHERE WHAT IT READS IS OF BULK AT MOST 1048576: true; the input reads as it did. -/
def wideLimitsUptoRow : OpenClaim := { program := "ytpcliampffeknaa", sum := "b5a09109c0dd02d5ba6f2720bcbc155fd807d071af33872ddd4f9b75f7066f3c", func := "meresman/meresmanlaw03.WideLimits", spec := "wideLimits", unfollowed := true, recurses := true, apart := false, narrowed := true }
def WideLimitsUptoSaid : Prop := wideLimitsUptoRow.holds Try.pinned (OpenSpec.upto wideLimitsSpec)

end Rows
end Go.Proofs.Ytpcliampffeknaa
