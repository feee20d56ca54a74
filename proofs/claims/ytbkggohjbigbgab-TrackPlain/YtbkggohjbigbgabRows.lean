/-
  No cell of these rows narrows 'for every input' (looked for: loops, veiled, ifaces, maps, wideKeys, modest, calm, conditions, laid).
  DERIVED. THE GIVEN ROWS OF THIS SEAT. 3 by the template 'for every input the law returns true; each argument reads behind the call as it read before'; 0 by the template 'total and deterministic' (their statements: YtbkggohjbigbgabTotals.lean).
  GIVEN WITH THE SEED: the statements are not yours to turn. If you find one false, say at which input.
  Laid BY PROGRAM, IN A SANDBOX (cutbox-rows.mjs): the forced cells as the released guide's own fill.sh prints them over the translation 736f6f060c46fac4… (all of the seat's roots in one cut). By AI agents, Wed Nov 11 2026. No macro, syntax, notation, axiom, sorry.
-/
import Derived.Test.YtbkggohjbigbgabChecked
import GoSem.Claim
import GoSem.ClaimJoined
import GoSem.ClaimMapViews
import Derived.JoinedTies
import Derived.KernelRfl
namespace Go.Proofs.Ytbkggohjbigbgab
/- THE CELL 'sum', in the pinned program and in every row, IS THE sha256 OF THE DUMP (.gsa) THAT YtbkggohjbigbgabProg.lean LOADS. Nothing in Lean hashes anything: it is a label: what it is worth is what the hold of that sum in a sandbox is worth. -/
noncomputable def Try.pinned : Pinned := { name := "ytbkggohjbigbgab", sum := "736f6f060c46fac434f2e16b2a0b62ac909ade6a4431215f45315fb182cb10d7", checked := Try.checked }
namespace Rows
def none {H : Type} : Left H := { results := [], args := [] }

/-- 'lychgatelaw07.TrackPlain': WHATEVER THE INPUT: true; the input reads as it did. -/
def trackPlainSpec : ChangeSpec := { name := "trackPlain", fn := fun _ => fun
  | [d1, d2, d3] => { results := [.lit (.bool true)], args := [d1, d2, d3] }
  | _ => none }
def trackPlainRow : OpenClaim := { program := "ytbkggohjbigbgab", sum := "736f6f060c46fac434f2e16b2a0b62ac909ade6a4431215f45315fb182cb10d7", func := "lychgate/lychgatelaw07.TrackPlain", spec := "trackPlain", apart := false }
def TrackPlainSaid : Prop := trackPlainRow.holds Try.pinned (OpenSpec.ofChange trackPlainSpec)

/-- ITS FALSE NEIGHBOUR: 'it returns false'. Refute it at one input. -/
def trackPlainWrong : ChangeSpec := { name := "trackPlain", fn := fun _ => fun
  | [d1, d2, d3] => { results := [.lit (.bool false)], args := [d1, d2, d3] }
  | _ => none }
def TrackPlainWrongFalsely : Prop := trackPlainRow.holds Try.pinned (OpenSpec.ofChange trackPlainWrong)

/-- 'lychgatelaw07.TrackLives': WHATEVER THE INPUT: true; the input reads as it did. -/
def trackLivesSpec : ChangeSpec := { name := "trackLives", fn := fun _ => fun
  | [d1, d2] => { results := [.lit (.bool true)], args := [d1, d2] }
  | _ => none }
def trackLivesRow : OpenClaim := { program := "ytbkggohjbigbgab", sum := "736f6f060c46fac434f2e16b2a0b62ac909ade6a4431215f45315fb182cb10d7", func := "lychgate/lychgatelaw07.TrackLives", spec := "trackLives", apart := false }
def TrackLivesSaid : Prop := trackLivesRow.holds Try.pinned (OpenSpec.ofChange trackLivesSpec)

/-- ITS FALSE NEIGHBOUR: 'it returns false'. Refute it at one input. -/
def trackLivesWrong : ChangeSpec := { name := "trackLives", fn := fun _ => fun
  | [d1, d2] => { results := [.lit (.bool false)], args := [d1, d2] }
  | _ => none }
def TrackLivesWrongFalsely : Prop := trackLivesRow.holds Try.pinned (OpenSpec.ofChange trackLivesWrong)

/-- 'lychgatetop.TopHandshake': WHATEVER THE INPUT: true; the input reads as it did. -/
def topHandshakeSpec : ChangeSpec := { name := "topHandshake", fn := fun _ => fun
  | [d] => { results := [.lit (.bool true)], args := [d] }
  | _ => none }
def topHandshakeRow : OpenClaim := { program := "ytbkggohjbigbgab", sum := "736f6f060c46fac434f2e16b2a0b62ac909ade6a4431215f45315fb182cb10d7", func := "lychgate/lychgatetop.TopHandshake", spec := "topHandshake", apart := false }
def TopHandshakeSaid : Prop := topHandshakeRow.holds Try.pinned (OpenSpec.ofChange topHandshakeSpec)

/-- ITS FALSE NEIGHBOUR: 'it returns false'. Refute it at one input. -/
def topHandshakeWrong : ChangeSpec := { name := "topHandshake", fn := fun _ => fun
  | [d] => { results := [.lit (.bool false)], args := [d] }
  | _ => none }
def TopHandshakeWrongFalsely : Prop := topHandshakeRow.holds Try.pinned (OpenSpec.ofChange topHandshakeWrong)

/- THE SECOND FORM. 'bulk': how many values and letters a reading holds, each counted each time it is reached (what is shared counts as often as it is met; a slice's spare places count too). A statement '..UptoSaid' is the law's where the arguments, and the package variables that the reading takes, are together of bulk at most 1048576: NARROWER than '..Said'. Prove '..Said' where nothing that the law and all that it calls make is longer than what came in: it says more and counts as full. Else prove '..UptoSaid'. A law counts once. -/
mutual
def uptoBulk {H : Type} : DataW H → Nat
  | .lit (.string bytes) => bytes.length + 1
  | .lit _ => 1
  | .nil => 1
  | .ptr d => uptoBulk d + 1
  | .slice elems spare => uptoBulkAll elems + uptoBulkAll spare + 1
  | .agg parts => uptoBulkAll parts + 1
  | .iface _ d => uptoBulk d + 1
  | .map entries => uptoBulkEntries entries + 1
  | .held _ => 1
def uptoBulkAll {H : Type} : List (DataW H) → Nat
  | [] => 0
  | d :: r => uptoBulk d + uptoBulkAll r
def uptoBulkEntries {H : Type} : List (Lit × DataW H) → Nat
  | [] => 0
  | x :: r => uptoBulkEntry x + uptoBulkEntries r
def uptoBulkEntry {H : Type} : Lit × DataW H → Nat
  | (.string bytes, d) => bytes.length + uptoBulk d + 1
  | (_, d) => uptoBulk d + 1
 end
def uptoSmall : (H : Type) → List (DataW H) → Bool := fun _ ds => decide (uptoBulkAll ds ≤ 1048576)
def OpenSpec.upto (s : _root_.Go.ChangeSpec) : _root_.Go.OpenSpec := { _root_.Go.OpenSpec.ofChange s with cond := some uptoSmall }

/-- 'lychgatelaw07.TrackPlain', WHERE WHAT IT READS IS OF BULK AT MOST 1048576: true; the input reads as it did. -/
def trackPlainUptoRow : OpenClaim := { program := "ytbkggohjbigbgab", sum := "736f6f060c46fac434f2e16b2a0b62ac909ade6a4431215f45315fb182cb10d7", func := "lychgate/lychgatelaw07.TrackPlain", spec := "trackPlain", apart := false, narrowed := true }
def TrackPlainUptoSaid : Prop := trackPlainUptoRow.holds Try.pinned (OpenSpec.upto trackPlainSpec)

/-- 'lychgatelaw07.TrackLives', WHERE WHAT IT READS IS OF BULK AT MOST 1048576: true; the input reads as it did. -/
def trackLivesUptoRow : OpenClaim := { program := "ytbkggohjbigbgab", sum := "736f6f060c46fac434f2e16b2a0b62ac909ade6a4431215f45315fb182cb10d7", func := "lychgate/lychgatelaw07.TrackLives", spec := "trackLives", apart := false, narrowed := true }
def TrackLivesUptoSaid : Prop := trackLivesUptoRow.holds Try.pinned (OpenSpec.upto trackLivesSpec)

/-- 'lychgatetop.TopHandshake', WHERE WHAT IT READS IS OF BULK AT MOST 1048576: true; the input reads as it did. -/
def topHandshakeUptoRow : OpenClaim := { program := "ytbkggohjbigbgab", sum := "736f6f060c46fac434f2e16b2a0b62ac909ade6a4431215f45315fb182cb10d7", func := "lychgate/lychgatetop.TopHandshake", spec := "topHandshake", apart := false, narrowed := true }
def TopHandshakeUptoSaid : Prop := topHandshakeUptoRow.holds Try.pinned (OpenSpec.upto topHandshakeSpec)

end Rows
end Go.Proofs.Ytbkggohjbigbgab
