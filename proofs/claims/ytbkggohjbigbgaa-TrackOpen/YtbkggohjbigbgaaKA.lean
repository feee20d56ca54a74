/- Layer 7: a map that a call makes, looked up. -/
import Derived.MapKept
import Derived.Test.YtbkggohjbigbgaaW1
import Derived.Test.YtbkggohjbigbgaaRg
namespace Go.Proofs.Ytbkggohjbigbgaa
open Go.RowKit Go.Shelf
set_option maxRecDepth 100000
set_option linter.unusedVariables false
set_option linter.unusedSimpArgs false

theorem run_ins {P : Program} {t kt et : TypeId} (ht : P.underlying t = some (.map kt et)) (hk : P.underlying kt = some (.int .i64)) {w : World} {b : Nat} {es : Array MapEntry} {c : Nat} (hb : w.heap[b]? = some (.map es c)) (z : Int) (v : Value) (hf : Instr.findNow (.int .i64) (.int .i64 z) es.toList 0 = some none) :
    ∃ w', (Instr.mapUpdate t (.map (some b)) (.int .i64 z) v).run P w = .ok () w' ∧ w'.heap[b]? = some (.map (es.push ⟨.int .i64 z, v, c⟩) (c + 1)) ∧ ∀ n, n ≤ b → Below n w w' := by
  have hc : (Instr.checkKey false 10000 kt (.int .i64 z)).run P w = .ok () w := MapKept.run_checkKey (k := .int .i64 z) hk (by simp [MapKept.IsKey]) false 9999
  have hlt := (Array.getElem?_eq_some_iff.1 hb).1
  refine ⟨{ w with heap := w.heap.setIfInBounds b (.map (es.push ⟨.int .i64 z, v, c⟩) (c + 1)) }, ?_, ?_, fun n hn => ⟨rfl, rfl, rfl, by simp, fun i hi => ?_⟩⟩
  · simp [Instr.mapUpdate, run_underlying ht, MapKept.run_getObj_map hb, hc, MapKept.run_findKey hk hf, MapKept.run_setObj_map _ hb, Result.andThen]
  · simp [hlt]
  · rw [Array.getElem?_setIfInBounds_ne (by omega)]

def rv (l : List Int) : Value := .agg (l.map (.int .i64)).toArray
def rows7 : List (List Int) := [[0,0,1,0,0,0,0], [0,7,1,2,0,0,0], [0,7,2,2,2,4,3], [0,7,0,0,0,4,3], [0,7,0,0,0,5,4], [0,7,0,0,0,5,6], [0,7,1,0,0,6,6], [0,7,1,0,0,0,0]]
def tabE : Array MapEntry := #[⟨.int .i64 0, rv [0,0,1,0,0,0,0], 0⟩, ⟨.int .i64 1, rv [0,7,1,2,0,0,0], 1⟩, ⟨.int .i64 2, rv [0,7,2,2,2,4,3], 2⟩, ⟨.int .i64 3, rv [0,7,0,0,0,4,3], 3⟩, ⟨.int .i64 4, rv [0,7,0,0,0,5,4], 4⟩, ⟨.int .i64 5, rv [0,7,0,0,0,5,6], 5⟩, ⟨.int .i64 6, rv [0,7,1,0,0,6,6], 6⟩, ⟨.int .i64 7, rv [0,7,1,0,0,0,0], 7⟩]

set_option maxHeartbeats 2000000 in
theorem follows_any (w : World) : Calls Try.prog 20 #[] w fun e w' => ∃ b, e = .returned (.map (some b)) ∧ Below w.heap.size w w' ∧ w'.heap[b]? = some (.map tabE 8) := by
  have hmm := @run_makeMap Try.prog
  have hb0 : Below w.heap.size w (w.alloc (.map #[] 0)) := (Below.refl _ _).alloc (Nat.le_refl _) _
  have hM0 := heap_alloc_new w (.map #[] 0)
  obtain ⟨w1, r1, m1, l1⟩ := run_ins (P := Try.prog) Try.underlying37 Try.underlying22 hM0 0 (.agg #[.int .i64 0, .int .i64 0, .int .i64 1, .int .i64 0, .int .i64 0, .int .i64 0, .int .i64 0]) (by kernel_rfl)
  obtain ⟨w2, r2, m2, l2⟩ := run_ins (P := Try.prog) Try.underlying37 Try.underlying22 m1 1 (.agg #[.int .i64 0, .int .i64 7, .int .i64 1, .int .i64 2, .int .i64 0, .int .i64 0, .int .i64 0]) (by kernel_rfl)
  obtain ⟨w3, r3, m3, l3⟩ := run_ins (P := Try.prog) Try.underlying37 Try.underlying22 m2 2 (.agg #[.int .i64 0, .int .i64 7, .int .i64 2, .int .i64 2, .int .i64 2, .int .i64 4, .int .i64 3]) (by kernel_rfl)
  obtain ⟨w4, r4, m4, l4⟩ := run_ins (P := Try.prog) Try.underlying37 Try.underlying22 m3 3 (.agg #[.int .i64 0, .int .i64 7, .int .i64 0, .int .i64 0, .int .i64 0, .int .i64 4, .int .i64 3]) (by kernel_rfl)
  obtain ⟨w5, r5, m5, l5⟩ := run_ins (P := Try.prog) Try.underlying37 Try.underlying22 m4 4 (.agg #[.int .i64 0, .int .i64 7, .int .i64 0, .int .i64 0, .int .i64 0, .int .i64 5, .int .i64 4]) (by kernel_rfl)
  obtain ⟨w6, r6, m6, l6⟩ := run_ins (P := Try.prog) Try.underlying37 Try.underlying22 m5 5 (.agg #[.int .i64 0, .int .i64 7, .int .i64 0, .int .i64 0, .int .i64 0, .int .i64 5, .int .i64 6]) (by kernel_rfl)
  obtain ⟨w7, r7, m7, l7⟩ := run_ins (P := Try.prog) Try.underlying37 Try.underlying22 m6 6 (.agg #[.int .i64 0, .int .i64 7, .int .i64 1, .int .i64 0, .int .i64 0, .int .i64 6, .int .i64 6]) (by kernel_rfl)
  obtain ⟨w8, r8, m8, l8⟩ := run_ins (P := Try.prog) Try.underlying37 Try.underlying22 m7 7 (.agg #[.int .i64 0, .int .i64 7, .int .i64 1, .int .i64 0, .int .i64 0, .int .i64 0, .int .i64 0]) (by kernel_rfl)
  have hb8 : Below w.heap.size w w8 := ((((((((hb0).trans (l1 _ (Nat.le_refl _))).trans (l2 _ (Nat.le_refl _))).trans (l3 _ (Nat.le_refl _))).trans (l4 _ (Nat.le_refl _))).trans (l5 _ (Nat.le_refl _))).trans (l6 _ (Nat.le_refl _))).trans (l7 _ (Nat.le_refl _))).trans (l8 _ (Nat.le_refl _))
  clear m1 m2 m3 m4 m5 m6 m7 l1 l2 l3 l4 l5 l6 l7 l8 hM0 hb0
  have M8 := hide m8
  clear m8
  go_enter Try.func20, Try.ntmps20
  go_wp2_with fail
  go_ret
  exact ⟨_, rfl, hb8, M8.out⟩

theorem run_find {P : Program} {t kt et : TypeId} (ht : P.underlying t = some (.map kt et)) (hk : P.underlying kt = some (.int .i64)) {w : World} {b : Nat} {es : Array MapEntry} {c : Nat} (hb : w.heap[b]? = some (.map es c)) (z : Int) (v : Value)
    (hf : ((∃ j, Instr.findNow (.int .i64) (.int .i64 z) es.toList 0 = some (some (j, v))) ∨ (Instr.findNow (.int .i64) (.int .i64 z) es.toList 0 = some none ∧ (zeroValue et).run P w = .ok v w))) : (Instr.lookup t (.map (some b)) (.int .i64 z) false).run P w = .ok v w := by
  have hc : (Instr.checkKey es.isEmpty 10000 kt (.int .i64 z)).run P w = .ok () w := MapKept.run_checkKey (k := .int .i64 z) hk (by simp [MapKept.IsKey]) _ 9999
  rcases hf with ⟨j, hf⟩ | ⟨hf, hz⟩
  · simp [Instr.lookup, run_underlying ht, MapKept.run_getObj_map hb, hc, MapKept.run_findKey hk hf, Result.andThen]
  · simp [Instr.lookup, run_underlying ht, MapKept.run_getObj_map hb, hc, MapKept.run_findKey hk hf, hz, Result.andThen]

def row7 (s : Int) : List Int := if s = 0 then [0,0,1,0,0,0,0] else if s = 1 then [0,7,1,2,0,0,0] else if s = 2 then [0,7,2,2,2,4,3] else if s = 3 then [0,7,0,0,0,4,3] else if s = 4 then [0,7,0,0,0,5,4] else if s = 5 then [0,7,0,0,0,5,6] else if s = 6 then [0,7,1,0,0,6,6] else if s = 7 then [0,7,1,0,0,0,0] else [0,0,0,0,0,0,0]

theorem zero7 (w : World) : (zeroValue 36).run Try.prog w = .ok (rv [0,0,0,0,0,0,0]) w := by kernel_rfl

theorem look7 {w : World} {b : Nat} (hb : w.heap[b]? = some (.map tabE 8)) (s : Int) : (Instr.lookup 37 (.map (some b)) (.int .i64 s) false).run Try.prog w = .ok (rv (row7 s)) w := by
  refine run_find Try.underlying37 Try.underlying22 hb s _ ?_
  by_cases h0 : s = 0
  · subst h0; exact .inl ⟨0, by kernel_rfl⟩
  by_cases h1 : s = 1
  · subst h1; exact .inl ⟨1, by kernel_rfl⟩
  by_cases h2 : s = 2
  · subst h2; exact .inl ⟨2, by kernel_rfl⟩
  by_cases h3 : s = 3
  · subst h3; exact .inl ⟨3, by kernel_rfl⟩
  by_cases h4 : s = 4
  · subst h4; exact .inl ⟨4, by kernel_rfl⟩
  by_cases h5 : s = 5
  · subst h5; exact .inl ⟨5, by kernel_rfl⟩
  by_cases h6 : s = 6
  · subst h6; exact .inl ⟨6, by kernel_rfl⟩
  by_cases h7 : s = 7
  · subst h7; exact .inl ⟨7, by kernel_rfl⟩
  refine .inr ⟨?_, ?_⟩
  · simp only [tabE, Instr.findNow, Instr.sameNow, if_true, (show (s == 0) = false from by simp [h0]), (show (s == 1) = false from by simp [h1]), (show (s == 2) = false from by simp [h2]), (show (s == 3) = false from by simp [h3]), (show (s == 4) = false from by simp [h4]), (show (s == 5) = false from by simp [h5]), (show (s == 6) = false from by simp [h6]), (show (s == 7) = false from by simp [h7])]
  · rw [zero7]; simp [row7, h0, h1, h2, h3, h4, h5, h6, h7]
end Go.Proofs.Ytbkggohjbigbgaa
