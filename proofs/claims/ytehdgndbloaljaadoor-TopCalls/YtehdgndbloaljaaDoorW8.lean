/- What stands ahead of a packet's data: Pseudo and the document's answer; bytes as strings. -/
import Derived.Laws.BytesArg
import Derived.Test.YtehdgndbloaljaaDoorW7
namespace Go.Proofs.YtehdgndbloaljaaDoor
open Go.RowKit Go.Shelf
set_option maxRecDepth 100000

/-- Bytes as a string, wherever they lie. -/
theorem conv_rd {P : Program} {n₀ : Nat} {w : World} {sv : Value} {zs : List Int} (src dst e : TypeId) (hs : P.underlying src = some (.slice e)) (he : P.underlying e = some (.int .u8)) (hd : P.underlying dst = some .string) (hI : Rd n₀ w sv zs) :
    (convert src dst sv).run P w = .ok (.string (strOfNums zs)) w := by
  rcases hI with ⟨a, cap, rfl, rfl, _, hn⟩ | ⟨b, off, cap, rfl, _, _, _, _, hc⟩
  · cases a with
    | none => rw [run_convert_bytes_nil w src e hs he 0 cap dst hd]; rfl
    | some ad =>
      rw [run_convert_bytes_string w src dst e _ 0 cap hs he hd, run_bytesToString w ad 0 cap [] (by simp [loadCells]; rfl)]
      rfl
  · exact run_convert_bytes_arg w src e hs he b off zs.length cap zs rfl (fun i hi => by rw [hc i hi]; rfl) dst hd

/-- The twelve bytes. -/
def psd (s d p n : Int) : List Int := [s / 16777216, s / 65536 % 256, s / 256 % 256, s % 256, d / 16777216, d / 65536 % 256, d / 256 % 256, d % 256, 0, p, n / 256 % 256, n % 256]

theorem psd_eq (s d p n : Int) : Mt.put2 ((put4 (put4 (List.replicate 12 0) 0 s) 4 d).set 9 p) 10 (n % 65536) = psd s d p n := by
  have e : ∀ v : Int, v / 65536 / 256 = v / 16777216 ∧ v % 65536 / 256 = v / 256 % 256 ∧ v % 65536 % 256 = v % 256 := fun v => by omega
  simp [Mt.put2, put4, psd, List.replicate, e]

theorem Rd.new2 (x y : Int) (e : TypeId) (w : World) : Rd (w.heap.size + 1) (w.alloc (.cells #[.int .u8 x, .int .u8 y] e)) (.slice (some ⟨w.heap.size, 0, none⟩) 2 2) [x, y] := Rd.new [x, y] e w (by simp) (by simp)
theorem Rd.new4 (x y z u : Int) (e : TypeId) (w : World) : Rd (w.heap.size + 1) (w.alloc (.cells #[.int .u8 x, .int .u8 y, .int .u8 z, .int .u8 u] e)) (.slice (some ⟨w.heap.size, 0, none⟩) 4 4) [x, y, z, u] := Rd.new [x, y, z, u] e w (by simp) (by simp)

end Go.Proofs.YtehdgndbloaljaaDoor