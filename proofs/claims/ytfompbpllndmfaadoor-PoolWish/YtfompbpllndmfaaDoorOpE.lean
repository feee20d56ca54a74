/- How arguments that are deeds of a pool read. -/
import Derived.Test.YtfompbpllndmfaaDoorRows
import Derived.ProofKit
import Derived.OpenShut
import Derived.Lib.SmallJoins
import Derived.ChangeSlices
import Derived.Test.YtfompbpllndmfaaDoorHd
namespace Go.Proofs.YtfompbpllndmfaaDoor
open Go.ChangeShapes Go.WideShapes Go.ChangeAt Go.RowKit Go.Joins
set_option maxRecDepth 100000
set_option linter.unusedVariables false
set_option linter.unusedSimpArgs false

theorem addr_add6 (b off k : Nat) : (⟨b, off, none⟩ : Addr).add k = ⟨b, off + k, none⟩ := by unfold Addr.add; split <;> simp_all

theorem lst2' {α : Type} {l : List α} (h : l.length = 2) : ∃ a b, l = [a, b] := by
  match l, h with
  | [a, b], _ => exact ⟨a, b, rfl⟩

/-- A deed on a pool: its kind, a number. -/
structure De where
  k : Int
  n : Int
def dec (d : De) : List Value := [.int .i64 d.k, .int .u16 d.n]
def wfE (d : De) : Prop := 0 ≤ d.n ∧ d.n ≤ 65535

theorem trod_deed6 {H : Type} {enc : TypeId × Value → H} {W : World} {n : Nat} {cs : List Value} {y : DataW H × List MemPlace} (h : DataW.trod enc Tryd.prog W 0 (fun _ => true) true n 38 cs = some y) (hl : cs.length = 2) : ∃ d : De, cs = dec d ∧ wfE d := by
  obtain ⟨c0, c1, rfl⟩ := lst2' hl
  obtain ⟨xs, n, hn, hx, _, hlen, hfs⟩ := DataW.trod_struct Tryd.underlying38 h
  obtain ⟨y0, y1, rfl⟩ := lst2' hlen
  have k0 : Tryd.prog.cellsOf 3 = 1 := by kernel_rfl
  have k5 : Tryd.prog.cellsOf 22 = 1 := by kernel_rfl
  have f0 := hfs 0 _ rfl
  have f1 := hfs 1 _ rfl
  simp [Value.cells, k0, k5] at f0 f1
  obtain ⟨k, e0, _, w0⟩ := DataW.trod_int Tryd.underlying3 f0
  obtain ⟨a, e1, _, w1⟩ := DataW.trod_int Tryd.underlying22 f1
  simp at e0 e1
  subst e0 e1
  simp [Lit.wf, IntKind.min, IntKind.max, IntKind.signed, IntKind.bits] at w0 w1
  exact ⟨⟨k, a⟩, rfl, w1⟩

/-- The slice value reads as these deeds, all of it below block n₀. -/
def RdE (n₀ : Nat) (W : World) (sv : Value) (l : List De) : Prop :=
  (∃ a cap, sv = .slice a 0 cap ∧ l = [] ∧ cap ≤ 9223372036854775807) ∨
  ∃ b off cap, sv = .slice (some ⟨b, off, none⟩) l.length cap ∧ l ≠ [] ∧ l.length ≤ cap ∧ cap ≤ 9223372036854775807 ∧ b < n₀ ∧ ∀ j (hj : j < l.length), ∀ i, i < 2 → W.cell? ⟨b, off + j * 2 + i, none⟩ = (dec l[j])[i]?
theorem RdE.below {n₀ : Nat} {A B : World} (h : Below n₀ A B) {sv : Value} {l : List De} : RdE n₀ A sv l → RdE n₀ B sv l
  | .inl e => .inl e
  | .inr ⟨b, off, cap, e, hne, hl, hm, hb, hc⟩ => .inr ⟨b, off, cap, e, hne, hl, hm, hb, fun j hj i hi => (h.cell (p := ⟨b, off + j * 2 + i, none⟩) hb).trans (hc j hj i hi)⟩
theorem RdE.slice {n₀ : Nat} {A : World} {sv : Value} {l : List De} : RdE n₀ A sv l → ∃ a cap, sv = .slice a l.length cap ∧ l.length ≤ cap ∧ cap ≤ 9223372036854775807
  | .inl ⟨a, cap, e, hz, hm⟩ => ⟨a, cap, by rw [e, hz]; rfl, by rw [hz]; exact Nat.zero_le _, hm⟩
  | .inr ⟨b, off, cap, e, _, hl, hm, _⟩ => ⟨_, cap, e, hl, hm⟩
theorem RdE.cells {n₀ : Nat} {W : World} {sv : Value} {l : List De} (h : RdE n₀ W sv l) (hne : 0 < l.length) : ∃ b off cap, sv = .slice (some ⟨b, off, none⟩) l.length cap ∧ l.length ≤ cap ∧ cap ≤ 9223372036854775807 ∧ b < n₀ ∧ ∀ j (hj : j < l.length), ∀ i, i < 2 → W.cell? ⟨b, off + j * 2 + i, none⟩ = (dec l[j])[i]? := by
  rcases h with ⟨a, cap, _, rfl, _⟩ | ⟨b, off, cap, e, _, hl, hm, hb, hc⟩
  · simp at hne
  · exact ⟨b, off, cap, e, hl, hm, hb, hc⟩

theorem open_deeds8 {H : Type} {enc : TypeId × Value → H} {W : World} {n : Nat} {c : Value} {y : DataW H × List MemPlace} (h : DataW.trod enc Tryd.prog W 0 (fun _ => true) true n 36 [c] = some y) : ∃ l, RdE W.heap.size W c l ∧ ∀ d ∈ l, wfE d := by
  rcases DataW.trod_slice Tryd.underlying36 h with ⟨hcs, _⟩ | ⟨a, len, cap, elems, rest, n, _, hcs, rfl, hb, hl, hm, hlen, hel, hsp, hns⟩
  · simp at hcs
    subst hcs
    exact ⟨[], .inl ⟨_, _, rfl, rfl, by omega⟩, fun d hd => by cases hd⟩
  · simp at hcs
    subst hcs
    have hc1 : Tryd.prog.cellsOf 38 = 2 := by kernel_rfl
    by_cases h0 : len = 0
    · subst h0
      exact ⟨[], .inl ⟨_, _, rfl, rfl, by simpa [maxLen] using hm⟩, fun d hd => by cases hd⟩
    have each : ∀ i, ∃ d : De, i < len → wfE d ∧ ∀ j, j < 2 → W.cell? ((a.add (i * 2)).add j) = (dec d)[j]? := fun i => by
      by_cases hi : i < len
      · have h1 := hel i hi
        rw [hc1] at h1
        have hy : elems[i]? = some (elems[i]'(by omega)) := List.getElem?_eq_getElem (by omega)
        rw [hy, Option.bind_eq_some_iff] at h1
        obtain ⟨cs', hcs, hy'⟩ := h1
        obtain ⟨q1, q2, q3⟩ := World.cells?_some hcs
        obtain ⟨d, e, hw⟩ := trod_deed6 hy' q2
        exact ⟨d, fun _ => ⟨hw, fun j hj => by rw [q3 j hj, e]⟩⟩
      · exact ⟨⟨0, 0⟩, fun h => absurd h hi⟩
    obtain ⟨O, hO⟩ := Classical.axiomOfChoice each
    obtain ⟨b, off, spot⟩ := a
    have hc : W.cell? _ = some _ := ((hO 0 (by omega)).2 0 (by omega))
    have hspot : spot = none := by simpa [Addr.add] using World.cell?_spot hc
    subst hspot
    refine ⟨(List.range len).map O, .inr ⟨b, off, cap, by simp, by intro e; have := congrArg List.length e; simp at this; omega, by simp; omega, by simpa [maxLen] using hm, ?_, fun j hj i hi => ?_⟩, fun d hd => ?_⟩
    · have := World.block_lt_of_cell? W _ hc
      simpa [Addr.add] using this
    · have hj' : j < len := by simpa using hj
      have := (hO j hj').2 i hi
      rw [addr_add6, addr_add6] at this
      rw [this]
      simp
    · obtain ⟨i, hi, rfl⟩ := List.mem_map.1 hd
      exact (hO i (by simpa using hi)).1
end Go.Proofs.YtfompbpllndmfaaDoor
