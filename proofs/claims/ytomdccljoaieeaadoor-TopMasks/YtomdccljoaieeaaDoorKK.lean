/- Layer 5: Reverse, Key of both sides; bytesOf, Hash. -/
import Derived.Test.YtomdccljoaieeaaDoorW4
namespace Go.Proofs.YtomdccljoaieeaaDoor
open Go.RowKit
set_option maxRecDepth 100000
set_option linter.unusedVariables false
set_option linter.unusedSimpArgs false

set_option maxHeartbeats 1000000 in
theorem reverse_any (p s d a b : Int) (w : World) : Calls Tryd.prog 13 #[.agg #[.int .u8 p, .int .u32 s, .int .u32 d, .int .u16 a, .int .u16 b]] w fun e w' => e = .returned (.agg #[.int .u8 p, .int .u32 d, .int .u32 s, .int .u16 b, .int .u16 a]) ∧ Below w.heap.size w w' := by
  go_enter Tryd.func13, Tryd.ntmps13
  go_wp2_with fail
  exact bodyPost_ret (v := .agg #[.int .u8 p, .int .u32 d, .int .u32 s, .int .u16 b, .int .u16 a]) (by simp [results, Tryd.results13, go_sem]) rfl ⟨rfl, ((Below.refl _ _).alloc (Nat.le_refl _) _).alloc (by simp) _⟩

def kyp (p a : Int) : Int := if p == 47 then 0 else a

def hstep (h x : Int) : Int := bits .xor .u32 h (x % 4294967296) * 16777619 % 4294967296
def hsh (zs : List Int) : Int := zs.foldl hstep 2166136261

end Go.Proofs.YtomdccljoaieeaaDoor