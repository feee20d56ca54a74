/- How an argument that is a list of parts of a stream reads. -/
import Derived.Test.YtaaanmjmgnpcgaaOp2
import Derived.Test.YtaaanmjmgnpcgaaGA
namespace Go.Proofs.Ytaaanmjmgnpcgaa
open Go.ChangeShapes Go.WideShapes Go.ChangeAt Go.RowKit Go.Joins
set_option maxRecDepth 100000
set_option linter.unusedVariables false
set_option linter.unusedSimpArgs false

/-- A part that is handed in. -/
structure Ap where
  s : Int
  wz : Int
  tv : Value
  zs : List Int
def apc (d : Ap) : List Value := [.int .u32 d.s, .int .i64 d.wz, d.tv]
def wfA (n₀ : Nat) (W : World) (d : Ap) : Prop := (0 ≤ d.s ∧ d.s ≤ 4294967295) ∧ (-9223372036854775808 ≤ d.wz ∧ d.wz ≤ 9223372036854775807) ∧ Mt.By d.zs ∧ Rd n₀ W d.tv d.zs
theorem wfA.below {n₀ : Nat} {A B : World} {d : Ap} (h : wfA n₀ A d) (k : Below n₀ A B) : wfA n₀ B d := ⟨h.1, h.2.1, h.2.2.1, h.2.2.2.below k⟩

theorem lst3q {α : Type} {l : List α} (h : l.length = 3) : ∃ a b c, l = [a, b, c] := by
  match l, h with
  | [a, b, c], _ => exact ⟨a, b, c, rfl⟩
theorem trod_part11 {H : Type} {enc : TypeId × Value → H} {W : World} {n : Nat} {cs : List Value} {y : DataW H × List MemPlace} (h : DataW.trod enc Try.prog W 0 (fun _ => true) true n 26 cs = some y) (hl : cs.length = 3) : ∃ d : Ap, cs = apc d ∧ wfA W.heap.size W d := by
  obtain ⟨c0, c1, c2, rfl⟩ := lst3q hl
  obtain ⟨xs, n, _, hx, _, hlen, hfs⟩ := DataW.trod_struct Try.underlying26 h
  obtain ⟨y0, y1, y2, rfl⟩ := lst3q hlen
  have k1 : Try.prog.cellsOf 23 = 1 := by kernel_rfl
  have k3 : Try.prog.cellsOf 3 = 1 := by kernel_rfl
  have k5 : Try.prog.cellsOf 24 = 1 := by kernel_rfl
  have f0 := hfs 0 _ rfl
  have f1 := hfs 1 _ rfl
  have f2 := hfs 2 _ rfl
  simp [Value.cells, k1, k3, k5] at f0 f1 f2
  obtain ⟨s, e0, _, w0⟩ := DataW.trod_int Try.underlying23 f0
  obtain ⟨wz, e1, _, w1⟩ := DataW.trod_int Try.underlying3 f1
  obtain ⟨zd, hBd, hId, hwd⟩ := open_bytes f2
  simp at e0 e1
  subst e0 e1
  exact ⟨⟨s, wz, c2, zd⟩, rfl, by simpa [Lit.wf, IntKind.min, IntKind.max, IntKind.signed, IntKind.bits] using w0, by simpa [Lit.wf, IntKind.min, IntKind.max, IntKind.signed, IntKind.bits] using w1, hBd, hId⟩

/-- The slice value reads as these parts, all of it below block n₀. -/
def RdA (n₀ : Nat) (W : World) (sv : Value) (l : List Ap) : Prop :=
  ((∃ a cap, sv = .slice a 0 cap ∧ l = [] ∧ cap ≤ 9223372036854775807) ∨
  ∃ b off cap, sv = .slice (some ⟨b, off, none⟩) l.length cap ∧ l ≠ [] ∧ l.length ≤ cap ∧ cap ≤ 9223372036854775807 ∧ b < n₀ ∧ ∀ j (hj : j < l.length), ∀ i, i < 3 → W.cell? ⟨b, off + j * 3 + i, none⟩ = (apc l[j])[i]?) ∧ ∀ d ∈ l, wfA n₀ W d
theorem RdA.below {n₀ : Nat} {A B : World} (h : Below n₀ A B) {sv : Value} {l : List Ap} (r : RdA n₀ A sv l) : RdA n₀ B sv l := by
  refine ⟨?_, fun d hd => (r.2 d hd).below h⟩
  rcases r.1 with e | ⟨b, off, cap, e, hne, hl, hm, hb, hc⟩
  · exact .inl e
  · exact .inr ⟨b, off, cap, e, hne, hl, hm, hb, fun j hj i hi => (h.cell (p := ⟨b, off + j * 3 + i, none⟩) hb).trans (hc j hj i hi)⟩
theorem RdA.slice {n₀ : Nat} {A : World} {sv : Value} {l : List Ap} (r : RdA n₀ A sv l) : ∃ a cap, sv = .slice a l.length cap ∧ l.length ≤ cap ∧ cap ≤ 9223372036854775807 := by
  rcases r.1 with ⟨a, cap, e, hz, hm⟩ | ⟨b, off, cap, e, _, hl, hm, _⟩
  · exact ⟨a, cap, by rw [e, hz]; rfl, by rw [hz]; exact Nat.zero_le _, hm⟩
  · exact ⟨_, cap, e, hl, hm⟩
theorem RdA.cells {n₀ : Nat} {W : World} {sv : Value} {l : List Ap} (h : RdA n₀ W sv l) (hne : 0 < l.length) : ∃ b off cap, sv = .slice (some ⟨b, off, none⟩) l.length cap ∧ l.length ≤ cap ∧ cap ≤ 9223372036854775807 ∧ b < n₀ ∧ ∀ j (hj : j < l.length), ∀ i, i < 3 → W.cell? ⟨b, off + j * 3 + i, none⟩ = (apc l[j])[i]? := by
  rcases h.1 with ⟨a, cap, _, rfl, _⟩ | ⟨b, off, cap, e, _, hl, hm, hb, hc⟩
  · simp at hne
  · exact ⟨b, off, cap, e, hl, hm, hb, hc⟩

theorem open_parts11 {H : Type} {enc : TypeId × Value → H} {W : World} {n : Nat} {c : Value} {y : DataW H × List MemPlace} (h : DataW.trod enc Try.prog W 0 (fun _ => true) true n 22 [c] = some y) : ∃ l, RdA W.heap.size W c l := by
  rcases DataW.trod_slice Try.underlying22 h with ⟨hcs, _⟩ | ⟨a, len, cap, elems, rest, n, _, hcs, rfl, hb, hl, hm, hlen, hel, hsp, hns⟩
  · simp at hcs
    subst hcs
    exact ⟨[], .inl ⟨_, _, rfl, rfl, by omega⟩, fun d hd => by cases hd⟩
  · simp at hcs
    subst hcs
    have hc1 : Try.prog.cellsOf 26 = 3 := by kernel_rfl
    by_cases h0 : len = 0
    · subst h0
      exact ⟨[], .inl ⟨_, _, rfl, rfl, by simpa [maxLen] using hm⟩, fun d hd => by cases hd⟩
    have each : ∀ i, ∃ d : Ap, i < len → wfA W.heap.size W d ∧ ∀ j, j < 3 → W.cell? ((a.add (i * 3)).add j) = (apc d)[j]? := fun i => by
      by_cases hi : i < len
      · have h1 := hel i hi
        rw [hc1] at h1
        have hy : elems[i]? = some (elems[i]'(by omega)) := List.getElem?_eq_getElem (by omega)
        rw [hy, Option.bind_eq_some_iff] at h1
        obtain ⟨cs', hcs, hy'⟩ := h1
        obtain ⟨q1, q2, q3⟩ := World.cells?_some hcs
        obtain ⟨d, e, hw⟩ := trod_part11 hy' q2
        exact ⟨d, fun _ => ⟨hw, fun j hj => by rw [q3 j hj, e]⟩⟩
      · exact ⟨⟨0, 0, undef, []⟩, fun h => absurd h hi⟩
    obtain ⟨O, hO⟩ := Classical.axiomOfChoice each
    obtain ⟨b, off, spot⟩ := a
    have hc : W.cell? _ = some _ := ((hO 0 (by omega)).2 0 (by omega))
    have hspot : spot = none := by simpa [Addr.add] using World.cell?_spot hc
    subst hspot
    refine ⟨(List.range len).map O, .inr ⟨b, off, cap, by simp, by intro e; have := congrArg List.length e; simp at this; omega, by simp; omega, by simpa [maxLen] using hm, ?_, fun j hj i hi => ?_⟩, fun d hd => ?_⟩
    · have := World.block_lt_of_cell? W _ hc
      simpa [Addr.add] using this
    · have hj' : j < len := by simpa using hj
      have := (hO j hj').2 i hi
      rw [addr_add', addr_add'] at this
      rw [this]
      simp
    · obtain ⟨i, hi, rfl⟩ := List.mem_map.1 hd
      exact (hO i (by simpa using hi)).1
end Go.Proofs.Ytaaanmjmgnpcgaa
