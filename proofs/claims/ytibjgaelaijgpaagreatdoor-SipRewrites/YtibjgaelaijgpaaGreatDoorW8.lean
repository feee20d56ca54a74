/- What stands ahead of a packet's data: Pseudo and the document's answer; bytes as strings. -/
import Derived.Laws.BytesArg
import Derived.Test.YtibjgaelaijgpaaGreatDoorW7
namespace Go.Proofs.YtibjgaelaijgpaaGreatDoor
open Go.RowKit Go.Shelf
set_option maxRecDepth 100000

/-- Bytes as a string, wherever they lie. -/
theorem conv_rd {P : Program} {n₀ : Nat} {w : World} {sv : Value} {zs : List Int} (src dst e : TypeId) (hs : P.underlying src = some (.slice e)) (he : P.underlying e = some (.int .u8)) (hd : P.underlying dst = some .string) (hI : Rd n₀ w sv zs) :
    (convert src dst sv).run P w = .ok (.string (strOfNums zs)) w := by
  rcases hI with ⟨a, cap, rfl, rfl, _, hn⟩ | ⟨b, off, cap, rfl, _, _, _, _, hc⟩
  · cases a with
    | none => rw [run_convert_bytes_nil w src e hs he 0 cap dst hd]; rfl
    | some ad =>
      rw [run_convert_bytes_string w src dst e _ 0 cap hs he hd, run_bytesToString w ad 0 cap [] (by simp [loadCells]; rfl)]
      rfl
  · exact run_convert_bytes_arg w src e hs he b off zs.length cap zs rfl (fun i hi => by rw [hc i hi]; rfl) dst hd

end Go.Proofs.YtibjgaelaijgpaaGreatDoor
