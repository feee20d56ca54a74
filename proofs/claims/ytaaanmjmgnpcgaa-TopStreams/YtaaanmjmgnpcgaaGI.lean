/- What SeqadjSums asks of the parts: numbers behind the last one. -/
import Derived.Test.YtaaanmjmgnpcgaaGH
namespace Go.Proofs.Ytaaanmjmgnpcgaa
open Go.RowKit Go.Shelf
set_option maxRecDepth 100000
set_option linter.unusedVariables false
set_option linter.unusedSimpArgs false

/-- The number lies behind the last part, at most 255 behind its end. -/
def SI (l : List Pa) (x : Int) : Prop := l = [] ∨ ∃ (l0 : List Pa) (s wz : Int) (n : Nat) (ta : Option Addr) (tc : Nat) (g : Int), l = l0 ++ [npP l0 s wz n ta tc] ∧ (0 ≤ s ∧ s ≤ 4294967295) ∧ (1 ≤ wz ∧ wz ≤ 128) ∧ (1 ≤ (n : Int) ∧ (n : Int) ≤ 128) ∧ (0 ≤ g ∧ g ≤ 255) ∧ x = (s + wz + g) % 4294967296
theorem lstP_snoc (l : List Pa) (p : Pa) : lstP (l ++ [p]) = p := by unfold lstP; simp
theorem shf_snoc (l : List Pa) (p : Pa) : shf (l ++ [p]) = (p.ie - p.we) % 4294967296 := by unfold shf; rw [lstP_snoc]; simp
theorem shf_new (l : List Pa) (s wz : Int) (n : Nat) (ta : Option Addr) (tc : Nat) : shf (l ++ [npP l s wz n ta tc]) = (shf l + (n : Int) - wz) % 4294967296 := by
  rw [shf_snoc]
  unfold npP
  dsimp only
  omega
theorem SI.pssd {l : List Pa} {x : Int} (h : SI l x) : pssd l x = false := by
  rcases h with rfl | ⟨l0, s, wz, n, ta, tc, g, rfl, hs, hw, hn, hg, rfl⟩
  · rfl
  · unfold Go.Proofs.Ytaaanmjmgnpcgaa.pssd
    rw [lstP_snoc]
    unfold npP
    dsimp only
    rw [ahd_is (d := g) (by omega) (by omega) (by omega)]
    simp
    omega
theorem map_new (l : List Pa) (s wz : Int) (n : Nat) (ta : Option Addr) (tc : Nat) (hs : 0 ≤ s ∧ s ≤ 4294967295) (hw : 1 ≤ wz ∧ wz ≤ 128) : mapS (l ++ [npP l s wz n ta tc]) s = (s + shf l) % 4294967296 := by
  unfold mapS
  rw [List.reverse_append]
  simp only [List.reverse_cons, List.reverse_nil, List.nil_append, List.singleton_append, acr]
  unfold npP
  dsimp only
  rw [bhd_f 0 (by omega) (by omega) (by omega), bhd_t wz (by omega) (by omega) (by omega)]
  simp
theorem SI.map {l : List Pa} {x : Int} (h : SI l x) (k y : Int) (hk : 0 ≤ k ∧ k ≤ 1000) (hx : 0 ≤ x ∧ x ≤ 4294967295) (hy : y = (x + k) % 4294967296) : mapS l y = (y + shf l) % 4294967296 := by
  rcases h with rfl | ⟨l0, s, wz, n, ta, tc, g, rfl, hs, hw, hn, hg, rfl⟩
  · show y = (y + 0) % 4294967296
    omega
  · rw [shf_snoc]
    unfold mapS
    rw [List.reverse_append]
    simp only [List.reverse_cons, List.reverse_nil, List.nil_append, List.singleton_append, acr]
    unfold npP
    dsimp only
    rw [bhd_f (-(wz + g + k)) (by omega) (by omega) (by omega), bhd_f (-(g + k)) (by omega) (by omega) (by omega)]
    simp
    omega
theorem SI.unm {l : List Pa} {x : Int} (h : SI l x) (hx : 0 ≤ x ∧ x ≤ 4294967295) : unmS l ((x + shf l) % 4294967296) = x := by
  rcases h with rfl | ⟨l0, s, wz, n, ta, tc, g, rfl, hs, hw, hn, hg, rfl⟩
  · show ((x + 0) % 4294967296) = x
    omega
  · rw [shf_new]
    unfold unmS
    rw [List.reverse_append]
    simp only [List.reverse_cons, List.reverse_nil, List.nil_append, List.singleton_append, acr]
    unfold npP
    dsimp only
    have := shf_rng l0
    generalize shf l0 = q at *
    rw [bhd_f (-((n : Int) + g)) (by omega) (by omega) (by omega), bhd_f (-g) (by omega) (by omega) (by omega)]
    simp
    omega
theorem SI.add {l : List Pa} (s wz : Int) (n : Nat) (ta : Option Addr) (tc : Nat) (g : Int) (hs : 0 ≤ s ∧ s ≤ 4294967295) (hw : 1 ≤ wz ∧ wz ≤ 128) (hn : 1 ≤ (n : Int) ∧ (n : Int) ≤ 128) (hg : 0 ≤ g ∧ g ≤ 255) : SI (l ++ [npP l s wz n ta tc]) ((s + wz + g) % 4294967296) := .inr ⟨l, s, wz, n, ta, tc, g, rfl, hs, hw, hn, hg, rfl⟩
theorem SI.ads {l : List Pa} {x wz tl : Int} (h : SI l x) (hw : 1 ≤ wz ∧ wz ≤ 128) (hn : 1 ≤ tl ∧ tl ≤ 128) (hl : l.length < 8) : adS l x wz tl = 0 := by
  unfold adS
  have h1 : okN wz = true := by unfold okN; simp; omega
  have h2 : okN tl = true := by unfold okN; simp; omega
  rw [h1, h2, h.pssd, if_neg (by simp), if_neg (by simp), if_neg (by simp), if_neg (by omega)]

theorem info_u8z : (Try.prog.info? 5).map (fun i => (i.zero, i.size, i.bytes)) = some (some (.int .u8 0), 1, 1) := by kernel_rfl
/-- make([]byte, n): zeros. -/
theorem make_u8 (w : World) (n : Nat) (hn : (n : Int) ≤ 128) : ∃ o : Obj, (Instr.makeSlice 24 (.int .i64 (n : Int)) (.int .i64 (n : Int))).run Try.prog w = .ok (.slice (some ⟨w.heap.size, 0, none⟩) n n) (w.alloc o) ∧ (0 < n → Rd (w.heap.size + 1) (w.alloc o) (.slice (some ⟨w.heap.size, 0, none⟩) n n) (List.replicate n 0)) := by
  obtain ⟨i0, hi, hz0, hz1, hz2⟩ : ∃ i, Try.prog.info? 5 = some i ∧ i.zero = some (.int .u8 0) ∧ i.size = 1 ∧ i.bytes = 1 := by
    have h := info_u8z
    cases hh : Try.prog.info? 5 with
    | none => rw [hh] at h; cases h
    | some i => rw [hh] at h; simp at h; exact ⟨i, rfl, h.1, h.2.1, h.2.2⟩
  refine ⟨.cells (madeCells (Value.int .u8 0).cells n) 5, ?_, fun hp => ?_⟩
  · have := run_make (P := Try.prog) w 24 5 i0 _ Try.underlying24 hi hz0 .i64 .i64 (n : Int) (n : Int) (by omega) (by omega) (by rw [hz2]; omega) (by omega)
    rw [hz1] at this
    simpa using this
  · have ez : madeCells (Value.int .u8 0).cells n = (List.replicate n (Value.int .u8 0)).toArray := by
      apply Array.ext
      · rw [size_madeCells]; simp
      · intro i h1 h2
        simp [madeCells, Value.cells]
        rw [Nat.mod_one]
        rfl
    rw [ez]
    refine .inr ⟨w.heap.size, 0, n, by simp, by intro e; have := congrArg List.length e; simp at this; omega, by simp, by omega, by omega, fun j hj => ?_⟩
    have hj' : j < n := by simpa using hj
    rw [Nat.zero_add, block_cell (heap_alloc_new w _) j, List.getElem?_toArray, List.getElem?_replicate, List.getElem?_replicate, if_pos hj', if_pos hj']
    rfl
end Go.Proofs.Ytaaanmjmgnpcgaa
