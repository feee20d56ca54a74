/- Package ctrl: messages. -/
import Derived.Deep.DeepCutAuto
import Derived.Deep.CutBlock
import Derived.Test.YtomdccljoaieeaaDoorCA
namespace Go.Proofs.YtomdccljoaieeaaDoor
open Go.RowKit Go.Shelf
set_option maxRecDepth 100000
set_option linter.unusedVariables false
set_option linter.unusedSimpArgs false

/-- A message's bytes, 0 for its check sum. -/
def icm0 (ty cde rest : Int) (zd : List Int) : List Int := ty :: cde :: 0 :: 0 :: rest / 65536 / 256 :: rest / 65536 % 256 :: rest % 65536 / 256 :: rest % 65536 % 256 :: zd
theorem icm0_join (ty cde rest : Int) (zd : List Int) : [[ty, cde], [(0 : Int) / 256, (0 : Int) % 256], [rest / 65536 / 256, rest / 65536 % 256, rest % 65536 / 256, rest % 65536 % 256], zd].flatten = icm0 ty cde rest zd := by simp [icm0]
theorem icm0_length (ty cde rest : Int) (zd : List Int) : (icm0 ty cde rest zd).length = 8 + zd.length := by simp [icm0]; omega
theorem By_icm0 (ty cde rest : Int) (zd : List Int) (h1 : 0 ≤ ty ∧ ty ≤ 255) (h2 : 0 ≤ cde ∧ cde ≤ 255) (h3 : 0 ≤ rest ∧ rest ≤ 4294967295) (hB : Mt.By zd) : Mt.By (icm0 ty cde rest zd) :=
  .mk h1 (.mk h2 (.mk (by omega) (.mk (by omega) (.mk (by omega) (.mk (by omega) (.mk (by omega) (.mk (by omega) hB)))))))
def icm (ty cde rest : Int) (zd : List Int) : List Int := Mt.put2 (icm0 ty cde rest zd) 2 (Mt.cks (icm0 ty cde rest zd))
theorem icm_length (ty cde rest : Int) (zd : List Int) : (icm ty cde rest zd).length = 8 + zd.length := by unfold icm; rw [Mt.put2_length, icm0_length]
theorem By_icm (ty cde rest : Int) (zd : List Int) (h1 : 0 ≤ ty ∧ ty ≤ 255) (h2 : 0 ≤ cde ∧ cde ≤ 255) (h3 : 0 ≤ rest ∧ rest ≤ 4294967295) (hB : Mt.By zd) : Mt.By (icm ty cde rest zd) := (By_icm0 ty cde rest zd h1 h2 h3 hB).put2 2 (Mt.cks_bd _)

theorem fld4 {w : World} {n : Nat} {t : TypeId} {v0 v1 v2 v3 : Value} (h : w.heap[n]? = some (.cells #[v0, v1, v2, v3] t (0, 0))) : w.cell? ⟨n, 0, none⟩ = some v0 ∧ w.cell? ⟨n, 1, none⟩ = some v1 ∧ w.cell? ⟨n, 2, none⟩ = some v2 ∧ w.cell? ⟨n, 3, none⟩ = some v3 :=
  ⟨block_cell h 0, block_cell h 1, block_cell h 2, block_cell h 3⟩

end Go.Proofs.YtomdccljoaieeaaDoor