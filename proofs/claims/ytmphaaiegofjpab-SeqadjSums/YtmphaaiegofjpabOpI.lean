/- How an argument that is an array of two rows of bytes reads. -/
import Derived.Test.YtmphaaiegofjpabOp2
namespace Go.Proofs.Ytmphaaiegofjpab
open Go.ChangeShapes Go.WideShapes Go.ChangeAt Go.RowKit Go.Joins
set_option maxRecDepth 100000
set_option linter.unusedVariables false
set_option linter.unusedSimpArgs false

theorem open_arr2y {H : Type} {enc : TypeId × Value → H} {W : World} {r : Reach} {b0 : Nat} {v : Value} {d : DataW H} {p : List MemPlace} (hv : Value.okWide Try.prog W r b0 39 v) (h : DataW.Trod enc Try.prog W 0 (fun _ => true) true 39 v d p) :
    ∃ (tv0 tv1 : Value) (z0 z1 : List Int), v = .agg #[tv0, tv1] ∧ Mt.By z0 ∧ Rd W.heap.size W tv0 z0 ∧ Mt.By z1 ∧ Rd W.heap.size W tv1 z1 := by
  obtain ⟨cs, rfl, hsz, _⟩ : ∃ cs, v = .agg cs ∧ cs.size = Try.prog.cellsOf 39 ∧ Row.okWide Try.prog W r b0 39 cs := by
    simpa [Value.okWide, Try.underlying39] using hv
  obtain ⟨c0, c1, rfl⟩ := array2 (hsz.trans (by kernel_rfl))
  obtain ⟨fuel, hf⟩ := h
  obtain ⟨xs, m, _, _, _, hl, hel⟩ := DataW.trod_array Try.underlying39 hf
  have hce : Try.prog.cellsOf 32 = 1 := by kernel_rfl
  match xs, hl with
  | [y0, y1], _ =>
    have e0 := hel 0 (by omega)
    have e1 := hel 1 (by omega)
    rw [hce] at e0 e1
    simp [Value.cells] at e0 e1
    obtain ⟨z0, hB0, hI0, _⟩ := open_bytes e0
    obtain ⟨z1, hB1, hI1, _⟩ := open_bytes e1
    exact ⟨c0, c1, z0, z1, rfl, hB0, hI0, hB1, hI1⟩
end Go.Proofs.Ytmphaaiegofjpab
