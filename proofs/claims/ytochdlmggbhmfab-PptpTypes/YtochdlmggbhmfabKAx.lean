/- A map of integers that a call makes. -/
import Derived.MapKept
import Derived.Test.YtochdlmggbhmfabW1
import Derived.Test.YtochdlmggbhmfabRg
namespace Go.Proofs.Ytochdlmggbhmfab
open Go.RowKit Go.Shelf
set_option maxRecDepth 100000
set_option linter.unusedVariables false
set_option linter.unusedSimpArgs false

theorem run_ins {P : Program} {t kt et : TypeId} (ht : P.underlying t = some (.map kt et)) (hk : P.underlying kt = some (.int .i64)) {w : World} {b : Nat} {es : Array MapEntry} {c : Nat} (hb : w.heap[b]? = some (.map es c)) (z : Int) (v : Value) (hf : Instr.findNow (.int .i64) (.int .i64 z) es.toList 0 = some none) :
    ∃ w', (Instr.mapUpdate t (.map (some b)) (.int .i64 z) v).run P w = .ok () w' ∧ w'.heap[b]? = some (.map (es.push ⟨.int .i64 z, v, c⟩) (c + 1)) ∧ ∀ n, n ≤ b → Below n w w' := by
  have hc : (Instr.checkKey false 10000 kt (.int .i64 z)).run P w = .ok () w := MapKept.run_checkKey (k := .int .i64 z) hk (by simp [MapKept.IsKey]) false 9999
  have hlt := (Array.getElem?_eq_some_iff.1 hb).1
  refine ⟨{ w with heap := w.heap.setIfInBounds b (.map (es.push ⟨.int .i64 z, v, c⟩) (c + 1)) }, ?_, ?_, fun n hn => ⟨rfl, rfl, rfl, by simp, fun i hi => ?_⟩⟩
  · simp [Instr.mapUpdate, run_underlying ht, MapKept.run_getObj_map hb, hc, MapKept.run_findKey hk hf, MapKept.run_setObj_map _ hb, Result.andThen]
  · simp [hlt]
  · rw [Array.getElem?_setIfInBounds_ne (by omega)]
end Go.Proofs.Ytochdlmggbhmfab
