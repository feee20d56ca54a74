/-
  No cell of these rows narrows 'for every input' (looked for: loops, veiled, ifaces, maps, wideKeys, modest, calm, conditions, laid).
  DERIVED. THE GIVEN ROWS OF THIS SEAT. 6 by the template 'for every input the law returns true; each argument reads behind the call as it read before'; 0 by the template 'total and deterministic' (their statements: YtiigmhddnaocoabTotals.lean).
  GIVEN WITH THE SEED: the statements are not yours to turn. If you find one false, say at which input.
  Laid BY PROGRAM, IN A SANDBOX (cutbox-rows.mjs): the forced cells as the released guide's own fill.sh prints them over the translation 8d9076aff0f90882… (all of the seat's roots in one cut). By AI agents, Wed Nov 11 2026. No macro, syntax, notation, axiom, sorry.
-/
import Derived.Test.YtiigmhddnaocoabChecked
import GoSem.Claim
import GoSem.ClaimJoined
import GoSem.ClaimMapViews
import Derived.JoinedTies
import Derived.KernelRfl
namespace Go.Proofs.Ytiigmhddnaocoab
/- THE CELL 'sum', in the pinned program and in every row, IS THE sha256 OF THE DUMP (.gsa) THAT YtiigmhddnaocoabProg.lean LOADS. Nothing in Lean hashes anything: it is a label: what it is worth is what the hold of that sum in a sandbox is worth. -/
noncomputable def Try.pinned : Pinned := { name := "ytiigmhddnaocoab", sum := "8d9076aff0f908821e88d6660c6d5f1367f503d97aef7421e7855b1f960345b3", checked := Try.checked }
namespace Rows
def none {H : Type} : Left H := { results := [], args := [] }

/-- 'lychgatelaw01.WirePatched': WHATEVER THE INPUT: true; the input reads as it did. -/
def wirePatchedSpec : ChangeSpec := { name := "wirePatched", fn := fun _ => fun
  | [d1, d2, d3] => { results := [.lit (.bool true)], args := [d1, d2, d3] }
  | _ => none }
def wirePatchedRow : OpenClaim := { program := "ytiigmhddnaocoab", sum := "8d9076aff0f908821e88d6660c6d5f1367f503d97aef7421e7855b1f960345b3", func := "lychgate/lychgatelaw01.WirePatched", spec := "wirePatched", unfollowed := true, recurses := true, apart := false }
def WirePatchedSaid : Prop := wirePatchedRow.holds Try.pinned (OpenSpec.ofChange wirePatchedSpec)

/-- ITS FALSE NEIGHBOUR: 'it returns false'. Refute it at one input. -/
def wirePatchedWrong : ChangeSpec := { name := "wirePatched", fn := fun _ => fun
  | [d1, d2, d3] => { results := [.lit (.bool false)], args := [d1, d2, d3] }
  | _ => none }
def WirePatchedWrongFalsely : Prop := wirePatchedRow.holds Try.pinned (OpenSpec.ofChange wirePatchedWrong)

/-- 'lychgatelaw01.WireBack': WHATEVER THE INPUT: true; the input reads as it did. -/
def wireBackSpec : ChangeSpec := { name := "wireBack", fn := fun _ => fun
  | [d1, d2, d3] => { results := [.lit (.bool true)], args := [d1, d2, d3] }
  | _ => none }
def wireBackRow : OpenClaim := { program := "ytiigmhddnaocoab", sum := "8d9076aff0f908821e88d6660c6d5f1367f503d97aef7421e7855b1f960345b3", func := "lychgate/lychgatelaw01.WireBack", spec := "wireBack", unfollowed := true, recurses := true, apart := false }
def WireBackSaid : Prop := wireBackRow.holds Try.pinned (OpenSpec.ofChange wireBackSpec)

/-- ITS FALSE NEIGHBOUR: 'it returns false'. Refute it at one input. -/
def wireBackWrong : ChangeSpec := { name := "wireBack", fn := fun _ => fun
  | [d1, d2, d3] => { results := [.lit (.bool false)], args := [d1, d2, d3] }
  | _ => none }
def WireBackWrongFalsely : Prop := wireBackRow.holds Try.pinned (OpenSpec.ofChange wireBackWrong)

/-- 'lychgatelaw01.WireOrder': WHATEVER THE INPUT: true; the input reads as it did. -/
def wireOrderSpec : ChangeSpec := { name := "wireOrder", fn := fun _ => fun
  | [d1, d2] => { results := [.lit (.bool true)], args := [d1, d2] }
  | _ => none }
def wireOrderRow : OpenClaim := { program := "ytiigmhddnaocoab", sum := "8d9076aff0f908821e88d6660c6d5f1367f503d97aef7421e7855b1f960345b3", func := "lychgate/lychgatelaw01.WireOrder", spec := "wireOrder", unfollowed := true, recurses := true, apart := false }
def WireOrderSaid : Prop := wireOrderRow.holds Try.pinned (OpenSpec.ofChange wireOrderSpec)

/-- ITS FALSE NEIGHBOUR: 'it returns false'. Refute it at one input. -/
def wireOrderWrong : ChangeSpec := { name := "wireOrder", fn := fun _ => fun
  | [d1, d2] => { results := [.lit (.bool false)], args := [d1, d2] }
  | _ => none }
def WireOrderWrongFalsely : Prop := wireOrderRow.holds Try.pinned (OpenSpec.ofChange wireOrderWrong)

/-- 'lychgatelaw01.WireZeros': WHATEVER THE INPUT: true; the input reads as it did. -/
def wireZerosSpec : ChangeSpec := { name := "wireZeros", fn := fun _ => fun
  | [d1, d2] => { results := [.lit (.bool true)], args := [d1, d2] }
  | _ => none }
def wireZerosRow : OpenClaim := { program := "ytiigmhddnaocoab", sum := "8d9076aff0f908821e88d6660c6d5f1367f503d97aef7421e7855b1f960345b3", func := "lychgate/lychgatelaw01.WireZeros", spec := "wireZeros", unfollowed := true, recurses := true, apart := false }
def WireZerosSaid : Prop := wireZerosRow.holds Try.pinned (OpenSpec.ofChange wireZerosSpec)

/-- ITS FALSE NEIGHBOUR: 'it returns false'. Refute it at one input. -/
def wireZerosWrong : ChangeSpec := { name := "wireZeros", fn := fun _ => fun
  | [d1, d2] => { results := [.lit (.bool false)], args := [d1, d2] }
  | _ => none }
def WireZerosWrongFalsely : Prop := wireZerosRow.holds Try.pinned (OpenSpec.ofChange wireZerosWrong)

/-- 'lychgatelaw02.Ipv4Parses': WHATEVER THE INPUT: true; the input reads as it did. -/
def ipv4ParsesSpec : ChangeSpec := { name := "ipv4Parses", fn := fun _ => fun
  | [d] => { results := [.lit (.bool true)], args := [d] }
  | _ => none }
def ipv4ParsesRow : OpenClaim := { program := "ytiigmhddnaocoab", sum := "8d9076aff0f908821e88d6660c6d5f1367f503d97aef7421e7855b1f960345b3", func := "lychgate/lychgatelaw02.Ipv4Parses", spec := "ipv4Parses", unfollowed := true, recurses := true, apart := false }
def Ipv4ParsesSaid : Prop := ipv4ParsesRow.holds Try.pinned (OpenSpec.ofChange ipv4ParsesSpec)

/-- ITS FALSE NEIGHBOUR: 'it returns false'. Refute it at one input. -/
def ipv4ParsesWrong : ChangeSpec := { name := "ipv4Parses", fn := fun _ => fun
  | [d] => { results := [.lit (.bool false)], args := [d] }
  | _ => none }
def Ipv4ParsesWrongFalsely : Prop := ipv4ParsesRow.holds Try.pinned (OpenSpec.ofChange ipv4ParsesWrong)

/-- 'lychgatelaw02.Ipv4Quotes': WHATEVER THE INPUT: true; the input reads as it did. -/
def ipv4QuotesSpec : ChangeSpec := { name := "ipv4Quotes", fn := fun _ => fun
  | [d] => { results := [.lit (.bool true)], args := [d] }
  | _ => none }
def ipv4QuotesRow : OpenClaim := { program := "ytiigmhddnaocoab", sum := "8d9076aff0f908821e88d6660c6d5f1367f503d97aef7421e7855b1f960345b3", func := "lychgate/lychgatelaw02.Ipv4Quotes", spec := "ipv4Quotes", unfollowed := true, recurses := true, apart := false }
def Ipv4QuotesSaid : Prop := ipv4QuotesRow.holds Try.pinned (OpenSpec.ofChange ipv4QuotesSpec)

/-- ITS FALSE NEIGHBOUR: 'it returns false'. Refute it at one input. -/
def ipv4QuotesWrong : ChangeSpec := { name := "ipv4Quotes", fn := fun _ => fun
  | [d] => { results := [.lit (.bool false)], args := [d] }
  | _ => none }
def Ipv4QuotesWrongFalsely : Prop := ipv4QuotesRow.holds Try.pinned (OpenSpec.ofChange ipv4QuotesWrong)

/- THE SECOND FORM. 'bulk': how many values and letters a reading holds, each counted each time it is reached (what is shared counts as often as it is met; a slice's spare places count too). A statement '..UptoSaid' is the law's where the arguments, and the package variables that the reading takes, are together of bulk at most 1048576: NARROWER than '..Said'. Prove '..Said' where nothing that the law and all that it calls make is longer than what came in: it says more and counts as full. Else prove '..UptoSaid'. A law counts once. -/
mutual
def uptoBulk {H : Type} : DataW H → Nat
  | .lit (.string bytes) => bytes.length + 1
  | .lit _ => 1
  | .nil => 1
  | .ptr d => uptoBulk d + 1
  | .slice elems spare => uptoBulkAll elems + uptoBulkAll spare + 1
  | .agg parts => uptoBulkAll parts + 1
  | .iface _ d => uptoBulk d + 1
  | .map entries => uptoBulkEntries entries + 1
  | .held _ => 1
def uptoBulkAll {H : Type} : List (DataW H) → Nat
  | [] => 0
  | d :: r => uptoBulk d + uptoBulkAll r
def uptoBulkEntries {H : Type} : List (Lit × DataW H) → Nat
  | [] => 0
  | x :: r => uptoBulkEntry x + uptoBulkEntries r
def uptoBulkEntry {H : Type} : Lit × DataW H → Nat
  | (.string bytes, d) => bytes.length + uptoBulk d + 1
  | (_, d) => uptoBulk d + 1
 end
def uptoSmall : (H : Type) → List (DataW H) → Bool := fun _ ds => decide (uptoBulkAll ds ≤ 1048576)
def OpenSpec.upto (s : _root_.Go.ChangeSpec) : _root_.Go.OpenSpec := { _root_.Go.OpenSpec.ofChange s with cond := some uptoSmall }

/-- 'lychgatelaw01.WirePatched', WHERE WHAT IT READS IS OF BULK AT MOST 1048576: true; the input reads as it did. -/
def wirePatchedUptoRow : OpenClaim := { program := "ytiigmhddnaocoab", sum := "8d9076aff0f908821e88d6660c6d5f1367f503d97aef7421e7855b1f960345b3", func := "lychgate/lychgatelaw01.WirePatched", spec := "wirePatched", unfollowed := true, recurses := true, apart := false, narrowed := true }
def WirePatchedUptoSaid : Prop := wirePatchedUptoRow.holds Try.pinned (OpenSpec.upto wirePatchedSpec)

/-- 'lychgatelaw01.WireBack', WHERE WHAT IT READS IS OF BULK AT MOST 1048576: true; the input reads as it did. -/
def wireBackUptoRow : OpenClaim := { program := "ytiigmhddnaocoab", sum := "8d9076aff0f908821e88d6660c6d5f1367f503d97aef7421e7855b1f960345b3", func := "lychgate/lychgatelaw01.WireBack", spec := "wireBack", unfollowed := true, recurses := true, apart := false, narrowed := true }
def WireBackUptoSaid : Prop := wireBackUptoRow.holds Try.pinned (OpenSpec.upto wireBackSpec)

/-- 'lychgatelaw01.WireOrder', WHERE WHAT IT READS IS OF BULK AT MOST 1048576: true; the input reads as it did. -/
def wireOrderUptoRow : OpenClaim := { program := "ytiigmhddnaocoab", sum := "8d9076aff0f908821e88d6660c6d5f1367f503d97aef7421e7855b1f960345b3", func := "lychgate/lychgatelaw01.WireOrder", spec := "wireOrder", unfollowed := true, recurses := true, apart := false, narrowed := true }
def WireOrderUptoSaid : Prop := wireOrderUptoRow.holds Try.pinned (OpenSpec.upto wireOrderSpec)

/-- 'lychgatelaw01.WireZeros', WHERE WHAT IT READS IS OF BULK AT MOST 1048576: true; the input reads as it did. -/
def wireZerosUptoRow : OpenClaim := { program := "ytiigmhddnaocoab", sum := "8d9076aff0f908821e88d6660c6d5f1367f503d97aef7421e7855b1f960345b3", func := "lychgate/lychgatelaw01.WireZeros", spec := "wireZeros", unfollowed := true, recurses := true, apart := false, narrowed := true }
def WireZerosUptoSaid : Prop := wireZerosUptoRow.holds Try.pinned (OpenSpec.upto wireZerosSpec)

/-- 'lychgatelaw02.Ipv4Parses', WHERE WHAT IT READS IS OF BULK AT MOST 1048576: true; the input reads as it did. -/
def ipv4ParsesUptoRow : OpenClaim := { program := "ytiigmhddnaocoab", sum := "8d9076aff0f908821e88d6660c6d5f1367f503d97aef7421e7855b1f960345b3", func := "lychgate/lychgatelaw02.Ipv4Parses", spec := "ipv4Parses", unfollowed := true, recurses := true, apart := false, narrowed := true }
def Ipv4ParsesUptoSaid : Prop := ipv4ParsesUptoRow.holds Try.pinned (OpenSpec.upto ipv4ParsesSpec)

/-- 'lychgatelaw02.Ipv4Quotes', WHERE WHAT IT READS IS OF BULK AT MOST 1048576: true; the input reads as it did. -/
def ipv4QuotesUptoRow : OpenClaim := { program := "ytiigmhddnaocoab", sum := "8d9076aff0f908821e88d6660c6d5f1367f503d97aef7421e7855b1f960345b3", func := "lychgate/lychgatelaw02.Ipv4Quotes", spec := "ipv4Quotes", unfollowed := true, recurses := true, apart := false, narrowed := true }
def Ipv4QuotesUptoSaid : Prop := ipv4QuotesUptoRow.holds Try.pinned (OpenSpec.upto ipv4QuotesSpec)

end Rows
end Go.Proofs.Ytiigmhddnaocoab
