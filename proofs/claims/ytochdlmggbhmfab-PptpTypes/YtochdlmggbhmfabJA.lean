/- Package pptp: its table of sizes and places, a map that a call makes. -/
import Derived.Test.YtochdlmggbhmfabKAx
import Derived.Test.YtochdlmggbhmfabW9
import Derived.ChangeKeysEq
namespace Go.Proofs.Ytochdlmggbhmfab
open Go.RowKit Go.Shelf
set_option maxRecDepth 100000
set_option linter.unusedVariables false
set_option linter.unusedSimpArgs false

/-- A layout: how many bytes, where the call stands, where the peer's. -/
abbrev lyv (s c p : Int) : Value := .agg #[.int .i64 s, .int .i64 c, .int .i64 p]
def tab15 : Array MapEntry := #[⟨.int .i64 7, lyv 168 12 (-1), 0⟩, ⟨.int .i64 8, lyv 32 12 14, 1⟩, ⟨.int .i64 12, lyv 16 12 (-1), 2⟩, ⟨.int .i64 13, lyv 148 12 (-1), 3⟩, ⟨.int .i64 15, lyv 24 (-1) 12, 4⟩]

set_option maxHeartbeats 2000000 in
theorem layouts_any (w : World) : Calls Try.prog 7 #[] w fun e w' => ∃ b, e = .returned (.map (some b)) ∧ Below w.heap.size w w' ∧ w'.heap[b]? = some (.map tab15 5) := by
  have hmm := @run_makeMap Try.prog
  have hb0 : Below w.heap.size w (w.alloc (.map #[] 0)) := (Below.refl _ _).alloc (Nat.le_refl _) _
  have hM0 := heap_alloc_new w (.map #[] 0)
  obtain ⟨w1, r1, m1, l1⟩ := run_ins (P := Try.prog) Try.underlying35 Try.underlying3 hM0 7 (lyv 168 12 (-1)) (by kernel_rfl)
  obtain ⟨w2, r2, m2, l2⟩ := run_ins (P := Try.prog) Try.underlying35 Try.underlying3 m1 8 (lyv 32 12 14) (by kernel_rfl)
  obtain ⟨w3, r3, m3, l3⟩ := run_ins (P := Try.prog) Try.underlying35 Try.underlying3 m2 12 (lyv 16 12 (-1)) (by kernel_rfl)
  obtain ⟨w4, r4, m4, l4⟩ := run_ins (P := Try.prog) Try.underlying35 Try.underlying3 m3 13 (lyv 148 12 (-1)) (by kernel_rfl)
  obtain ⟨w5, r5, m5, l5⟩ := run_ins (P := Try.prog) Try.underlying35 Try.underlying3 m4 15 (lyv 24 (-1) 12) (by kernel_rfl)
  have hb5 : Below w.heap.size w w5 := (((((hb0).trans (l1 _ (Nat.le_refl _))).trans (l2 _ (Nat.le_refl _))).trans (l3 _ (Nat.le_refl _))).trans (l4 _ (Nat.le_refl _))).trans (l5 _ (Nat.le_refl _))
  clear m1 m2 m3 m4 l1 l2 l3 l4 l5 hM0 hb0
  have M5 := hide m5
  clear m5
  go_enter Try.func7, Try.ntmps7
  go_wp2_with fail
  go_ret
  exact ⟨_, rfl, hb5, M5.out⟩

/-- How many bytes a message of a type has, and where its calls stand; whether it is a type. -/
def lsz (t : Int) : Int := if t = 7 then 168 else if t = 8 then 32 else if t = 12 then 16 else if t = 13 then 148 else if t = 15 then 24 else 0
def lca (t : Int) : Int := if t = 7 then 12 else if t = 8 then 12 else if t = 12 then 12 else if t = 13 then 12 else if t = 15 then -1 else 0
def lpe (t : Int) : Int := if t = 7 then -1 else if t = 8 then 14 else if t = 12 then -1 else if t = 13 then -1 else if t = 15 then 12 else 0
def lkn (t : Int) : Bool := t == 7 || t == 8 || t == 12 || t == 13 || t == 15

theorem zero15 (w : World) : (zeroValue 34).run Try.prog w = .ok (lyv 0 0 0) w := by kernel_rfl

theorem find15 (t : Int) : (lkn t = true ∧ ∃ j, Instr.findNow (.int .i64) (.int .i64 t) tab15.toList 0 = some (some (j, lyv (lsz t) (lca t) (lpe t)))) ∨
    (lkn t = false ∧ lyv (lsz t) (lca t) (lpe t) = lyv 0 0 0 ∧ Instr.findNow (.int .i64) (.int .i64 t) tab15.toList 0 = some none) := by
  by_cases h0 : t = 7
  · subst h0; exact .inl ⟨by decide, 0, by kernel_rfl⟩
  by_cases h1 : t = 8
  · subst h1; exact .inl ⟨by decide, 1, by kernel_rfl⟩
  by_cases h2 : t = 12
  · subst h2; exact .inl ⟨by decide, 2, by kernel_rfl⟩
  by_cases h3 : t = 13
  · subst h3; exact .inl ⟨by decide, 3, by kernel_rfl⟩
  by_cases h4 : t = 15
  · subst h4; exact .inl ⟨by decide, 4, by kernel_rfl⟩
  refine .inr ⟨?_, ?_, ?_⟩
  · simp [lkn, h0, h1, h2, h3, h4]
  · simp [lsz, lca, lpe, h0, h1, h2, h3, h4]
  · simp only [tab15, Instr.findNow, Instr.sameNow, if_true, (show (t == 7) = false from by simp [h0]), (show (t == 8) = false from by simp [h1]), (show (t == 12) = false from by simp [h2]), (show (t == 13) = false from by simp [h3]), (show (t == 15) = false from by simp [h4])]

theorem look15 {w : World} {b : Nat} (hb : w.heap[b]? = some (.map tab15 5)) (t : Int) : (Instr.lookup 35 (.map (some b)) (.int .i64 t) false).run Try.prog w = .ok (lyv (lsz t) (lca t) (lpe t)) w := by
  have hc : (Instr.checkKey tab15.isEmpty 10000 3 (.int .i64 t)).run Try.prog w = .ok () w := MapKept.run_checkKey (k := .int .i64 t) Try.underlying3 (by simp [MapKept.IsKey]) _ 9999
  rcases find15 t with ⟨_, j, hf⟩ | ⟨_, he, hf⟩
  · simp [Instr.lookup, run_underlying Try.underlying35, MapKept.run_getObj_map hb, hc, MapKept.run_findKey Try.underlying3 hf, Result.andThen]
  · rw [he]
    simp [Instr.lookup, run_underlying Try.underlying35, MapKept.run_getObj_map hb, hc, MapKept.run_findKey Try.underlying3 hf, zero15, Result.andThen]

theorem look15b {w : World} {b : Nat} (hb : w.heap[b]? = some (.map tab15 5)) (t : Int) : (Instr.lookup 35 (.map (some b)) (.int .i64 t) true).run Try.prog w = .ok (.tuple #[lyv (lsz t) (lca t) (lpe t), .bool (lkn t)]) w := by
  have hc : (Instr.checkKey tab15.isEmpty 10000 3 (.int .i64 t)).run Try.prog w = .ok () w := MapKept.run_checkKey (k := .int .i64 t) Try.underlying3 (by simp [MapKept.IsKey]) _ 9999
  rcases find15 t with ⟨hk, j, hf⟩ | ⟨hk, he, hf⟩
  · rw [hk]
    simp [Instr.lookup, run_underlying Try.underlying35, MapKept.run_getObj_map hb, hc, MapKept.run_findKey Try.underlying3 hf, Result.andThen]
  · rw [he, hk]
    simp [Instr.lookup, run_underlying Try.underlying35, MapKept.run_getObj_map hb, hc, MapKept.run_findKey Try.underlying3 hf, zero15, Result.andThen]

theorem fld15 (s c p : Int) (w : World) : (Instr.field 34 (lyv s c p) 0).run Try.prog w = .ok (.int .i64 s) w := by kernel_rfl

theorem size15_any (t : Int) (w : World) : Calls Try.prog 4 #[.int .i64 t] w fun e w' => e = .returned (.int .i64 (lsz t)) ∧ Below w.heap.size w w' := by
  go_enter Try.func4, Try.ntmps4
  go_wp2_with fail
  refine (layouts_any w).mono ?_
  rintro e w1 ⟨b, rfl, hb1, hm⟩
  have hlk := look15 hm t
  have hfd := fld15 (lsz t) (lca t) (lpe t) w1
  go_wp2_with fail
  go_ret
  exact ⟨rfl, hb1⟩

theorem getAt2_bd {zs : List Int} (h : Mt.By zs) (p : Int) : 0 ≤ getAt2 zs p ∧ getAt2 zs p ≤ 65535 := by
  unfold getAt2; split
  · exact wat_bd h _
  · omega

theorem typeOf_any {n₀ : Nat} (sv : Value) (zs : List Int) (hB : Mt.By zs) (w : World) (hI : Rd n₀ w sv zs) : Calls Try.prog 9 #[sv] w fun e w' => e = .returned (.int .i64 (getAt2 zs 8)) ∧ ∃ n, w' = w.drewN n := by
  obtain ⟨a, cap, rfl, _, _⟩ := hI.slice
  go_enter Try.func9, Try.ntmps9
  go_wp2_with fail
  refine (get16_at _ zs hB 8 w hI).mono ?_
  rintro e w1 ⟨rfl, n, rfl⟩
  go_wp2_with fail
  go_ret
  exact ⟨ret_int (by have := getAt2_bd hB 8; unfold wrap64; omega), n, rfl⟩
end Go.Proofs.Ytochdlmggbhmfab
