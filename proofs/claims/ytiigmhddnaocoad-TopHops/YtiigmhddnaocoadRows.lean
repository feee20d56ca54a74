/-
  No cell of these rows narrows 'for every input' (looked for: loops, veiled, ifaces, maps, wideKeys, modest, calm, conditions, laid).
  DERIVED. THE GIVEN ROWS OF THIS SEAT. 3 by the template 'for every input the law returns true; each argument reads behind the call as it read before'; 0 by the template 'total and deterministic' (their statements: YtiigmhddnaocoadTotals.lean).
  GIVEN WITH THE SEED: the statements are not yours to turn. If you find one false, say at which input.
  Laid BY PROGRAM, IN A SANDBOX (cutbox-rows.mjs): the forced cells as the released guide's own fill.sh prints them over the translation f1196f24dc031d42… (all of the seat's roots in one cut). By AI agents, Wed Nov 11 2026. No macro, syntax, notation, axiom, sorry.
-/
import Derived.Test.YtiigmhddnaocoadChecked
import GoSem.Claim
import GoSem.ClaimJoined
import GoSem.ClaimMapViews
import Derived.JoinedTies
import Derived.KernelRfl
namespace Go.Proofs.Ytiigmhddnaocoad
/- THE CELL 'sum', in the pinned program and in every row, IS THE sha256 OF THE DUMP (.gsa) THAT YtiigmhddnaocoadProg.lean LOADS. Nothing in Lean hashes anything: it is a label: what it is worth is what the hold of that sum in a sandbox is worth. -/
noncomputable def Try.pinned : Pinned := { name := "ytiigmhddnaocoad", sum := "f1196f24dc031d42457b2b2aec79aac97d401fc548612570aece7917cf46ddaf", checked := Try.checked }
namespace Rows
def none {H : Type} : Left H := { results := [], args := [] }

/-- 'lychgatelaw02.Ipv4Same': WHATEVER THE INPUT: true; the input reads as it did. -/
def ipv4SameSpec : ChangeSpec := { name := "ipv4Same", fn := fun _ => fun
  | [d1, d2] => { results := [.lit (.bool true)], args := [d1, d2] }
  | _ => none }
def ipv4SameRow : OpenClaim := { program := "ytiigmhddnaocoad", sum := "f1196f24dc031d42457b2b2aec79aac97d401fc548612570aece7917cf46ddaf", func := "lychgate/lychgatelaw02.Ipv4Same", spec := "ipv4Same", unfollowed := true, recurses := true, apart := false }
def Ipv4SameSaid : Prop := ipv4SameRow.holds Try.pinned (OpenSpec.ofChange ipv4SameSpec)

/-- ITS FALSE NEIGHBOUR: 'it returns false'. Refute it at one input. -/
def ipv4SameWrong : ChangeSpec := { name := "ipv4Same", fn := fun _ => fun
  | [d1, d2] => { results := [.lit (.bool false)], args := [d1, d2] }
  | _ => none }
def Ipv4SameWrongFalsely : Prop := ipv4SameRow.holds Try.pinned (OpenSpec.ofChange ipv4SameWrong)

/-- 'lychgatetop.TopHeaders': WHATEVER THE INPUT: true; the input reads as it did. -/
def topHeadersSpec : ChangeSpec := { name := "topHeaders", fn := fun _ => fun
  | [d] => { results := [.lit (.bool true)], args := [d] }
  | _ => none }
def topHeadersRow : OpenClaim := { program := "ytiigmhddnaocoad", sum := "f1196f24dc031d42457b2b2aec79aac97d401fc548612570aece7917cf46ddaf", func := "lychgate/lychgatetop.TopHeaders", spec := "topHeaders", unfollowed := true, recurses := true, apart := false }
def TopHeadersSaid : Prop := topHeadersRow.holds Try.pinned (OpenSpec.ofChange topHeadersSpec)

/-- ITS FALSE NEIGHBOUR: 'it returns false'. Refute it at one input. -/
def topHeadersWrong : ChangeSpec := { name := "topHeaders", fn := fun _ => fun
  | [d] => { results := [.lit (.bool false)], args := [d] }
  | _ => none }
def TopHeadersWrongFalsely : Prop := topHeadersRow.holds Try.pinned (OpenSpec.ofChange topHeadersWrong)

/-- 'lychgatetop.TopHops': WHATEVER THE INPUT: true; the input reads as it did. -/
def topHopsSpec : ChangeSpec := { name := "topHops", fn := fun _ => fun
  | [d] => { results := [.lit (.bool true)], args := [d] }
  | _ => none }
def topHopsRow : OpenClaim := { program := "ytiigmhddnaocoad", sum := "f1196f24dc031d42457b2b2aec79aac97d401fc548612570aece7917cf46ddaf", func := "lychgate/lychgatetop.TopHops", spec := "topHops", unfollowed := true, recurses := true, apart := false }
def TopHopsSaid : Prop := topHopsRow.holds Try.pinned (OpenSpec.ofChange topHopsSpec)

/-- ITS FALSE NEIGHBOUR: 'it returns false'. Refute it at one input. -/
def topHopsWrong : ChangeSpec := { name := "topHops", fn := fun _ => fun
  | [d] => { results := [.lit (.bool false)], args := [d] }
  | _ => none }
def TopHopsWrongFalsely : Prop := topHopsRow.holds Try.pinned (OpenSpec.ofChange topHopsWrong)

/- THE SECOND FORM. 'bulk': how many values and letters a reading holds, each counted each time it is reached (what is shared counts as often as it is met; a slice's spare places count too). A statement '..UptoSaid' is the law's where the arguments, and the package variables that the reading takes, are together of bulk at most 1048576: NARROWER than '..Said'. Prove '..Said' where nothing that the law and all that it calls make is longer than what came in: it says more and counts as full. Else prove '..UptoSaid'. A law counts once. -/
mutual
def uptoBulk {H : Type} : DataW H → Nat
  | .lit (.string bytes) => bytes.length + 1
  | .lit _ => 1
  | .nil => 1
  | .ptr d => uptoBulk d + 1
  | .slice elems spare => uptoBulkAll elems + uptoBulkAll spare + 1
  | .agg parts => uptoBulkAll parts + 1
  | .iface _ d => uptoBulk d + 1
  | .map entries => uptoBulkEntries entries + 1
  | .held _ => 1
def uptoBulkAll {H : Type} : List (DataW H) → Nat
  | [] => 0
  | d :: r => uptoBulk d + uptoBulkAll r
def uptoBulkEntries {H : Type} : List (Lit × DataW H) → Nat
  | [] => 0
  | x :: r => uptoBulkEntry x + uptoBulkEntries r
def uptoBulkEntry {H : Type} : Lit × DataW H → Nat
  | (.string bytes, d) => bytes.length + uptoBulk d + 1
  | (_, d) => uptoBulk d + 1
 end
def uptoSmall : (H : Type) → List (DataW H) → Bool := fun _ ds => decide (uptoBulkAll ds ≤ 1048576)
def OpenSpec.upto (s : _root_.Go.ChangeSpec) : _root_.Go.OpenSpec := { _root_.Go.OpenSpec.ofChange s with cond := some uptoSmall }

/-- 'lychgatelaw02.Ipv4Same', WHERE WHAT IT READS IS OF BULK AT MOST 1048576: true; the input reads as it did. -/
def ipv4SameUptoRow : OpenClaim := { program := "ytiigmhddnaocoad", sum := "f1196f24dc031d42457b2b2aec79aac97d401fc548612570aece7917cf46ddaf", func := "lychgate/lychgatelaw02.Ipv4Same", spec := "ipv4Same", unfollowed := true, recurses := true, apart := false, narrowed := true }
def Ipv4SameUptoSaid : Prop := ipv4SameUptoRow.holds Try.pinned (OpenSpec.upto ipv4SameSpec)

/-- 'lychgatetop.TopHeaders', WHERE WHAT IT READS IS OF BULK AT MOST 1048576: true; the input reads as it did. -/
def topHeadersUptoRow : OpenClaim := { program := "ytiigmhddnaocoad", sum := "f1196f24dc031d42457b2b2aec79aac97d401fc548612570aece7917cf46ddaf", func := "lychgate/lychgatetop.TopHeaders", spec := "topHeaders", unfollowed := true, recurses := true, apart := false, narrowed := true }
def TopHeadersUptoSaid : Prop := topHeadersUptoRow.holds Try.pinned (OpenSpec.upto topHeadersSpec)

/-- 'lychgatetop.TopHops', WHERE WHAT IT READS IS OF BULK AT MOST 1048576: true; the input reads as it did. -/
def topHopsUptoRow : OpenClaim := { program := "ytiigmhddnaocoad", sum := "f1196f24dc031d42457b2b2aec79aac97d401fc548612570aece7917cf46ddaf", func := "lychgate/lychgatetop.TopHops", spec := "topHops", unfollowed := true, recurses := true, apart := false, narrowed := true }
def TopHopsUptoSaid : Prop := topHopsUptoRow.holds Try.pinned (OpenSpec.upto topHopsSpec)

end Rows
end Go.Proofs.Ytiigmhddnaocoad
