/-
  No cell of these rows narrows 'for every input' (looked for: loops, veiled, ifaces, maps, wideKeys, modest, calm, conditions, laid).
  DERIVED. THE GIVEN ROWS OF THIS SEAT. 3 by the template 'for every input the law returns true; each argument reads behind the call as it read before'; 0 by the template 'total and deterministic' (their statements: YtmphaaiegofjpabTotals.lean).
  GIVEN WITH THE SEED: the statements are not yours to turn. If you find one false, say at which input.
  Laid BY PROGRAM, IN A SANDBOX (cutbox-rows.mjs): the forced cells as the released guide's own fill.sh prints them over the translation d04891e924049f46… (all of the seat's roots in one cut). By AI agents, Wed Nov 11 2026. No macro, syntax, notation, axiom, sorry.
-/
import Derived.Test.YtmphaaiegofjpabChecked
import GoSem.Claim
import GoSem.ClaimJoined
import GoSem.ClaimMapViews
import Derived.JoinedTies
import Derived.KernelRfl
namespace Go.Proofs.Ytmphaaiegofjpab
/- THE CELL 'sum', in the pinned program and in every row, IS THE sha256 OF THE DUMP (.gsa) THAT YtmphaaiegofjpabProg.lean LOADS. Nothing in Lean hashes anything: it is a label: what it is worth is what the hold of that sum in a sandbox is worth. -/
noncomputable def Try.pinned : Pinned := { name := "ytmphaaiegofjpab", sum := "d04891e924049f46a48bc45c9bb3b06da44c5b9961f8de9c3c0d8903d13c678b", checked := Try.checked }
namespace Rows
def none {H : Type} : Left H := { results := [], args := [] }

/-- 'lychgatelaw11.SeqadjForks': WHATEVER THE INPUT: true; the input reads as it did. -/
def seqadjForksSpec : ChangeSpec := { name := "seqadjForks", fn := fun _ => fun
  | [d1, d2, d3] => { results := [.lit (.bool true)], args := [d1, d2, d3] }
  | _ => none }
def seqadjForksRow : OpenClaim := { program := "ytmphaaiegofjpab", sum := "d04891e924049f46a48bc45c9bb3b06da44c5b9961f8de9c3c0d8903d13c678b", func := "lychgate/lychgatelaw11.SeqadjForks", spec := "seqadjForks", unfollowed := true, recurses := true, apart := false }
def SeqadjForksSaid : Prop := seqadjForksRow.holds Try.pinned (OpenSpec.ofChange seqadjForksSpec)

/-- ITS FALSE NEIGHBOUR: 'it returns false'. Refute it at one input. -/
def seqadjForksWrong : ChangeSpec := { name := "seqadjForks", fn := fun _ => fun
  | [d1, d2, d3] => { results := [.lit (.bool false)], args := [d1, d2, d3] }
  | _ => none }
def SeqadjForksWrongFalsely : Prop := seqadjForksRow.holds Try.pinned (OpenSpec.ofChange seqadjForksWrong)

/-- 'lychgatelaw11.SeqadjSums': WHATEVER THE INPUT: true; the input reads as it did. -/
def seqadjSumsSpec : ChangeSpec := { name := "seqadjSums", fn := fun _ => fun
  | [d1, d2, d3] => { results := [.lit (.bool true)], args := [d1, d2, d3] }
  | _ => none }
def seqadjSumsRow : OpenClaim := { program := "ytmphaaiegofjpab", sum := "d04891e924049f46a48bc45c9bb3b06da44c5b9961f8de9c3c0d8903d13c678b", func := "lychgate/lychgatelaw11.SeqadjSums", spec := "seqadjSums", unfollowed := true, recurses := true, apart := false }
def SeqadjSumsSaid : Prop := seqadjSumsRow.holds Try.pinned (OpenSpec.ofChange seqadjSumsSpec)

/-- ITS FALSE NEIGHBOUR: 'it returns false'. Refute it at one input. -/
def seqadjSumsWrong : ChangeSpec := { name := "seqadjSums", fn := fun _ => fun
  | [d1, d2, d3] => { results := [.lit (.bool false)], args := [d1, d2, d3] }
  | _ => none }
def SeqadjSumsWrongFalsely : Prop := seqadjSumsRow.holds Try.pinned (OpenSpec.ofChange seqadjSumsWrong)

/-- 'lychgatetop.TopStreams': WHATEVER THE INPUT: true; the input reads as it did. -/
def topStreamsSpec : ChangeSpec := { name := "topStreams", fn := fun _ => fun
  | [d] => { results := [.lit (.bool true)], args := [d] }
  | _ => none }
def topStreamsRow : OpenClaim := { program := "ytmphaaiegofjpab", sum := "d04891e924049f46a48bc45c9bb3b06da44c5b9961f8de9c3c0d8903d13c678b", func := "lychgate/lychgatetop.TopStreams", spec := "topStreams", unfollowed := true, recurses := true, apart := false }
def TopStreamsSaid : Prop := topStreamsRow.holds Try.pinned (OpenSpec.ofChange topStreamsSpec)

/-- ITS FALSE NEIGHBOUR: 'it returns false'. Refute it at one input. -/
def topStreamsWrong : ChangeSpec := { name := "topStreams", fn := fun _ => fun
  | [d] => { results := [.lit (.bool false)], args := [d] }
  | _ => none }
def TopStreamsWrongFalsely : Prop := topStreamsRow.holds Try.pinned (OpenSpec.ofChange topStreamsWrong)

/- THE SECOND FORM. 'bulk': how many values and letters a reading holds, each counted each time it is reached (what is shared counts as often as it is met; a slice's spare places count too). A statement '..UptoSaid' is the law's where the arguments, and the package variables that the reading takes, are together of bulk at most 1048576: NARROWER than '..Said'. Prove '..Said' where nothing that the law and all that it calls make is longer than what came in: it says more and counts as full. Else prove '..UptoSaid'. A law counts once. -/
mutual
def uptoBulk {H : Type} : DataW H → Nat
  | .lit (.string bytes) => bytes.length + 1
  | .lit _ => 1
  | .nil => 1
  | .ptr d => uptoBulk d + 1
  | .slice elems spare => uptoBulkAll elems + uptoBulkAll spare + 1
  | .agg parts => uptoBulkAll parts + 1
  | .iface _ d => uptoBulk d + 1
  | .map entries => uptoBulkEntries entries + 1
  | .held _ => 1
def uptoBulkAll {H : Type} : List (DataW H) → Nat
  | [] => 0
  | d :: r => uptoBulk d + uptoBulkAll r
def uptoBulkEntries {H : Type} : List (Lit × DataW H) → Nat
  | [] => 0
  | x :: r => uptoBulkEntry x + uptoBulkEntries r
def uptoBulkEntry {H : Type} : Lit × DataW H → Nat
  | (.string bytes, d) => bytes.length + uptoBulk d + 1
  | (_, d) => uptoBulk d + 1
 end
def uptoSmall : (H : Type) → List (DataW H) → Bool := fun _ ds => decide (uptoBulkAll ds ≤ 1048576)
def OpenSpec.upto (s : _root_.Go.ChangeSpec) : _root_.Go.OpenSpec := { _root_.Go.OpenSpec.ofChange s with cond := some uptoSmall }

/-- 'lychgatelaw11.SeqadjForks', WHERE WHAT IT READS IS OF BULK AT MOST 1048576: true; the input reads as it did. -/
def seqadjForksUptoRow : OpenClaim := { program := "ytmphaaiegofjpab", sum := "d04891e924049f46a48bc45c9bb3b06da44c5b9961f8de9c3c0d8903d13c678b", func := "lychgate/lychgatelaw11.SeqadjForks", spec := "seqadjForks", unfollowed := true, recurses := true, apart := false, narrowed := true }
def SeqadjForksUptoSaid : Prop := seqadjForksUptoRow.holds Try.pinned (OpenSpec.upto seqadjForksSpec)

/-- 'lychgatelaw11.SeqadjSums', WHERE WHAT IT READS IS OF BULK AT MOST 1048576: true; the input reads as it did. -/
def seqadjSumsUptoRow : OpenClaim := { program := "ytmphaaiegofjpab", sum := "d04891e924049f46a48bc45c9bb3b06da44c5b9961f8de9c3c0d8903d13c678b", func := "lychgate/lychgatelaw11.SeqadjSums", spec := "seqadjSums", unfollowed := true, recurses := true, apart := false, narrowed := true }
def SeqadjSumsUptoSaid : Prop := seqadjSumsUptoRow.holds Try.pinned (OpenSpec.upto seqadjSumsSpec)

/-- 'lychgatetop.TopStreams', WHERE WHAT IT READS IS OF BULK AT MOST 1048576: true; the input reads as it did. -/
def topStreamsUptoRow : OpenClaim := { program := "ytmphaaiegofjpab", sum := "d04891e924049f46a48bc45c9bb3b06da44c5b9961f8de9c3c0d8903d13c678b", func := "lychgate/lychgatetop.TopStreams", spec := "topStreams", unfollowed := true, recurses := true, apart := false, narrowed := true }
def TopStreamsUptoSaid : Prop := topStreamsUptoRow.holds Try.pinned (OpenSpec.upto topStreamsSpec)

end Rows
end Go.Proofs.Ytmphaaiegofjpab
