/-
  No cell of these rows narrows 'for every input' (looked for: loops, veiled, ifaces, maps, wideKeys, modest, calm, conditions, laid).
  DERIVED. THE GIVEN ROWS OF THIS SEAT. 6 by the template 'for every input the law returns true; each argument reads behind the call as it read before'; 0 by the template 'total and deterministic' (their statements: YtiigmhddnaocoaaTotals.lean).
  GIVEN WITH THE SEED: the statements are not yours to turn. If you find one false, say at which input.
  Laid BY PROGRAM, IN A SANDBOX (cutbox-rows.mjs): the forced cells as the released guide's own fill.sh prints them over the translation f5d2263a7db07bd6… (all of the seat's roots in one cut). By AI agents, Wed Nov 11 2026. No macro, syntax, notation, axiom, sorry.
-/
import Derived.Test.YtiigmhddnaocoaaChecked
import GoSem.Claim
import GoSem.ClaimJoined
import GoSem.ClaimMapViews
import Derived.JoinedTies
import Derived.KernelRfl
namespace Go.Proofs.Ytiigmhddnaocoaa
/- THE CELL 'sum', in the pinned program and in every row, IS THE sha256 OF THE DUMP (.gsa) THAT YtiigmhddnaocoaaProg.lean LOADS. Nothing in Lean hashes anything: it is a label: what it is worth is what the hold of that sum in a sandbox is worth. -/
noncomputable def Try.pinned : Pinned := { name := "ytiigmhddnaocoaa", sum := "f5d2263a7db07bd68847b289f43e2ba8f52ead0221f73c4c8ec0b62a38a7da71", checked := Try.checked }
namespace Rows
def none {H : Type} : Left H := { results := [], args := [] }

/-- 'lychgatelaw01.WireSums': WHATEVER THE INPUT: true; the input reads as it did. -/
def wireSumsSpec : ChangeSpec := { name := "wireSums", fn := fun _ => fun
  | [d] => { results := [.lit (.bool true)], args := [d] }
  | _ => none }
def wireSumsRow : OpenClaim := { program := "ytiigmhddnaocoaa", sum := "f5d2263a7db07bd68847b289f43e2ba8f52ead0221f73c4c8ec0b62a38a7da71", func := "lychgate/lychgatelaw01.WireSums", spec := "wireSums", unfollowed := true, recurses := true, apart := false }
def WireSumsSaid : Prop := wireSumsRow.holds Try.pinned (OpenSpec.ofChange wireSumsSpec)

/-- ITS FALSE NEIGHBOUR: 'it returns false'. Refute it at one input. -/
def wireSumsWrong : ChangeSpec := { name := "wireSums", fn := fun _ => fun
  | [d] => { results := [.lit (.bool false)], args := [d] }
  | _ => none }
def WireSumsWrongFalsely : Prop := wireSumsRow.holds Try.pinned (OpenSpec.ofChange wireSumsWrong)

/-- 'lychgatelaw01.WirePatches': WHATEVER THE INPUT: true; the input reads as it did. -/
def wirePatchesSpec : ChangeSpec := { name := "wirePatches", fn := fun _ => fun
  | [d1, d2, d3] => { results := [.lit (.bool true)], args := [d1, d2, d3] }
  | _ => none }
def wirePatchesRow : OpenClaim := { program := "ytiigmhddnaocoaa", sum := "f5d2263a7db07bd68847b289f43e2ba8f52ead0221f73c4c8ec0b62a38a7da71", func := "lychgate/lychgatelaw01.WirePatches", spec := "wirePatches", unfollowed := true, recurses := true, apart := false }
def WirePatchesSaid : Prop := wirePatchesRow.holds Try.pinned (OpenSpec.ofChange wirePatchesSpec)

/-- ITS FALSE NEIGHBOUR: 'it returns false'. Refute it at one input. -/
def wirePatchesWrong : ChangeSpec := { name := "wirePatches", fn := fun _ => fun
  | [d1, d2, d3] => { results := [.lit (.bool false)], args := [d1, d2, d3] }
  | _ => none }
def WirePatchesWrongFalsely : Prop := wirePatchesRow.holds Try.pinned (OpenSpec.ofChange wirePatchesWrong)

/-- 'lychgatelaw01.WireWords': WHATEVER THE INPUT: true; the input reads as it did. -/
def wireWordsSpec : ChangeSpec := { name := "wireWords", fn := fun _ => fun
  | [d1, d2, d3] => { results := [.lit (.bool true)], args := [d1, d2, d3] }
  | _ => none }
def wireWordsRow : OpenClaim := { program := "ytiigmhddnaocoaa", sum := "f5d2263a7db07bd68847b289f43e2ba8f52ead0221f73c4c8ec0b62a38a7da71", func := "lychgate/lychgatelaw01.WireWords", spec := "wireWords", unfollowed := true, recurses := true, apart := false }
def WireWordsSaid : Prop := wireWordsRow.holds Try.pinned (OpenSpec.ofChange wireWordsSpec)

/-- ITS FALSE NEIGHBOUR: 'it returns false'. Refute it at one input. -/
def wireWordsWrong : ChangeSpec := { name := "wireWords", fn := fun _ => fun
  | [d1, d2, d3] => { results := [.lit (.bool false)], args := [d1, d2, d3] }
  | _ => none }
def WireWordsWrongFalsely : Prop := wireWordsRow.holds Try.pinned (OpenSpec.ofChange wireWordsWrong)

/-- 'lychgatelaw01.WirePseudo': WHATEVER THE INPUT: true; the input reads as it did. -/
def wirePseudoSpec : ChangeSpec := { name := "wirePseudo", fn := fun _ => fun
  | [d1, d2, d3] => { results := [.lit (.bool true)], args := [d1, d2, d3] }
  | _ => none }
def wirePseudoRow : OpenClaim := { program := "ytiigmhddnaocoaa", sum := "f5d2263a7db07bd68847b289f43e2ba8f52ead0221f73c4c8ec0b62a38a7da71", func := "lychgate/lychgatelaw01.WirePseudo", spec := "wirePseudo", unfollowed := true, recurses := true, apart := false }
def WirePseudoSaid : Prop := wirePseudoRow.holds Try.pinned (OpenSpec.ofChange wirePseudoSpec)

/-- ITS FALSE NEIGHBOUR: 'it returns false'. Refute it at one input. -/
def wirePseudoWrong : ChangeSpec := { name := "wirePseudo", fn := fun _ => fun
  | [d1, d2, d3] => { results := [.lit (.bool false)], args := [d1, d2, d3] }
  | _ => none }
def WirePseudoWrongFalsely : Prop := wirePseudoRow.holds Try.pinned (OpenSpec.ofChange wirePseudoWrong)

/-- 'lychgatelaw01.WireAhead': WHATEVER THE INPUT: true; the input reads as it did. -/
def wireAheadSpec : ChangeSpec := { name := "wireAhead", fn := fun _ => fun
  | [d1, d2] => { results := [.lit (.bool true)], args := [d1, d2] }
  | _ => none }
def wireAheadRow : OpenClaim := { program := "ytiigmhddnaocoaa", sum := "f5d2263a7db07bd68847b289f43e2ba8f52ead0221f73c4c8ec0b62a38a7da71", func := "lychgate/lychgatelaw01.WireAhead", spec := "wireAhead", unfollowed := true, recurses := true, apart := false }
def WireAheadSaid : Prop := wireAheadRow.holds Try.pinned (OpenSpec.ofChange wireAheadSpec)

/-- ITS FALSE NEIGHBOUR: 'it returns false'. Refute it at one input. -/
def wireAheadWrong : ChangeSpec := { name := "wireAhead", fn := fun _ => fun
  | [d1, d2] => { results := [.lit (.bool false)], args := [d1, d2] }
  | _ => none }
def WireAheadWrongFalsely : Prop := wireAheadRow.holds Try.pinned (OpenSpec.ofChange wireAheadWrong)

/-- 'lychgatelaw01.WireGood': WHATEVER THE INPUT: true; the input reads as it did. -/
def wireGoodSpec : ChangeSpec := { name := "wireGood", fn := fun _ => fun
  | [d1, d2] => { results := [.lit (.bool true)], args := [d1, d2] }
  | _ => none }
def wireGoodRow : OpenClaim := { program := "ytiigmhddnaocoaa", sum := "f5d2263a7db07bd68847b289f43e2ba8f52ead0221f73c4c8ec0b62a38a7da71", func := "lychgate/lychgatelaw01.WireGood", spec := "wireGood", unfollowed := true, recurses := true, apart := false }
def WireGoodSaid : Prop := wireGoodRow.holds Try.pinned (OpenSpec.ofChange wireGoodSpec)

/-- ITS FALSE NEIGHBOUR: 'it returns false'. Refute it at one input. -/
def wireGoodWrong : ChangeSpec := { name := "wireGood", fn := fun _ => fun
  | [d1, d2] => { results := [.lit (.bool false)], args := [d1, d2] }
  | _ => none }
def WireGoodWrongFalsely : Prop := wireGoodRow.holds Try.pinned (OpenSpec.ofChange wireGoodWrong)

/- THE SECOND FORM. 'bulk': how many values and letters a reading holds, each counted each time it is reached (what is shared counts as often as it is met; a slice's spare places count too). A statement '..UptoSaid' is the law's where the arguments, and the package variables that the reading takes, are together of bulk at most 1048576: NARROWER than '..Said'. Prove '..Said' where nothing that the law and all that it calls make is longer than what came in: it says more and counts as full. Else prove '..UptoSaid'. A law counts once. -/
mutual
def uptoBulk {H : Type} : DataW H → Nat
  | .lit (.string bytes) => bytes.length + 1
  | .lit _ => 1
  | .nil => 1
  | .ptr d => uptoBulk d + 1
  | .slice elems spare => uptoBulkAll elems + uptoBulkAll spare + 1
  | .agg parts => uptoBulkAll parts + 1
  | .iface _ d => uptoBulk d + 1
  | .map entries => uptoBulkEntries entries + 1
  | .held _ => 1
def uptoBulkAll {H : Type} : List (DataW H) → Nat
  | [] => 0
  | d :: r => uptoBulk d + uptoBulkAll r
def uptoBulkEntries {H : Type} : List (Lit × DataW H) → Nat
  | [] => 0
  | x :: r => uptoBulkEntry x + uptoBulkEntries r
def uptoBulkEntry {H : Type} : Lit × DataW H → Nat
  | (.string bytes, d) => bytes.length + uptoBulk d + 1
  | (_, d) => uptoBulk d + 1
 end
def uptoSmall : (H : Type) → List (DataW H) → Bool := fun _ ds => decide (uptoBulkAll ds ≤ 1048576)
def OpenSpec.upto (s : _root_.Go.ChangeSpec) : _root_.Go.OpenSpec := { _root_.Go.OpenSpec.ofChange s with cond := some uptoSmall }

/-- 'lychgatelaw01.WireSums', WHERE WHAT IT READS IS OF BULK AT MOST 1048576: true; the input reads as it did. -/
def wireSumsUptoRow : OpenClaim := { program := "ytiigmhddnaocoaa", sum := "f5d2263a7db07bd68847b289f43e2ba8f52ead0221f73c4c8ec0b62a38a7da71", func := "lychgate/lychgatelaw01.WireSums", spec := "wireSums", unfollowed := true, recurses := true, apart := false, narrowed := true }
def WireSumsUptoSaid : Prop := wireSumsUptoRow.holds Try.pinned (OpenSpec.upto wireSumsSpec)

/-- 'lychgatelaw01.WirePatches', WHERE WHAT IT READS IS OF BULK AT MOST 1048576: true; the input reads as it did. -/
def wirePatchesUptoRow : OpenClaim := { program := "ytiigmhddnaocoaa", sum := "f5d2263a7db07bd68847b289f43e2ba8f52ead0221f73c4c8ec0b62a38a7da71", func := "lychgate/lychgatelaw01.WirePatches", spec := "wirePatches", unfollowed := true, recurses := true, apart := false, narrowed := true }
def WirePatchesUptoSaid : Prop := wirePatchesUptoRow.holds Try.pinned (OpenSpec.upto wirePatchesSpec)

/-- 'lychgatelaw01.WireWords', WHERE WHAT IT READS IS OF BULK AT MOST 1048576: true; the input reads as it did. -/
def wireWordsUptoRow : OpenClaim := { program := "ytiigmhddnaocoaa", sum := "f5d2263a7db07bd68847b289f43e2ba8f52ead0221f73c4c8ec0b62a38a7da71", func := "lychgate/lychgatelaw01.WireWords", spec := "wireWords", unfollowed := true, recurses := true, apart := false, narrowed := true }
def WireWordsUptoSaid : Prop := wireWordsUptoRow.holds Try.pinned (OpenSpec.upto wireWordsSpec)

/-- 'lychgatelaw01.WirePseudo', WHERE WHAT IT READS IS OF BULK AT MOST 1048576: true; the input reads as it did. -/
def wirePseudoUptoRow : OpenClaim := { program := "ytiigmhddnaocoaa", sum := "f5d2263a7db07bd68847b289f43e2ba8f52ead0221f73c4c8ec0b62a38a7da71", func := "lychgate/lychgatelaw01.WirePseudo", spec := "wirePseudo", unfollowed := true, recurses := true, apart := false, narrowed := true }
def WirePseudoUptoSaid : Prop := wirePseudoUptoRow.holds Try.pinned (OpenSpec.upto wirePseudoSpec)

/-- 'lychgatelaw01.WireAhead', WHERE WHAT IT READS IS OF BULK AT MOST 1048576: true; the input reads as it did. -/
def wireAheadUptoRow : OpenClaim := { program := "ytiigmhddnaocoaa", sum := "f5d2263a7db07bd68847b289f43e2ba8f52ead0221f73c4c8ec0b62a38a7da71", func := "lychgate/lychgatelaw01.WireAhead", spec := "wireAhead", unfollowed := true, recurses := true, apart := false, narrowed := true }
def WireAheadUptoSaid : Prop := wireAheadUptoRow.holds Try.pinned (OpenSpec.upto wireAheadSpec)

/-- 'lychgatelaw01.WireGood', WHERE WHAT IT READS IS OF BULK AT MOST 1048576: true; the input reads as it did. -/
def wireGoodUptoRow : OpenClaim := { program := "ytiigmhddnaocoaa", sum := "f5d2263a7db07bd68847b289f43e2ba8f52ead0221f73c4c8ec0b62a38a7da71", func := "lychgate/lychgatelaw01.WireGood", spec := "wireGood", unfollowed := true, recurses := true, apart := false, narrowed := true }
def WireGoodUptoSaid : Prop := wireGoodUptoRow.holds Try.pinned (OpenSpec.upto wireGoodSpec)

end Rows
end Go.Proofs.Ytiigmhddnaocoaa
