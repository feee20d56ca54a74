/- Slices of bools: what they read as. -/
import Derived.Test.YtbkggohjbigbgaaKD
import Derived.Test.YtbkggohjbigbgaaW4
import Derived.ProofKit
import Derived.ChangeSlices
namespace Go.Proofs.Ytbkggohjbigbgaa
open Go.RowKit Go.Shelf Go.ChangeShapes
set_option maxRecDepth 100000
set_option linter.unusedVariables false
set_option linter.unusedSimpArgs false

def RdB (n₀ : Nat) (W : World) (sv : Value) (bs : List Bool) : Prop :=
  (∃ a cap, sv = .slice a 0 cap ∧ bs = [] ∧ cap ≤ 9223372036854775807) ∨
  ∃ b off cap, sv = .slice (some ⟨b, off, none⟩) bs.length cap ∧ bs ≠ [] ∧ bs.length ≤ cap ∧ cap ≤ 9223372036854775807 ∧ b < n₀ ∧ ∀ j, j < bs.length → W.cell? ⟨b, off + j, none⟩ = some (.bool (bs[j]?.getD false))
theorem RdB.below {n₀ : Nat} {A B : World} (h : Below n₀ A B) {sv : Value} {bs : List Bool} : RdB n₀ A sv bs → RdB n₀ B sv bs
  | .inl e => .inl e
  | .inr ⟨b, off, cap, e, hne, hl, hm, hb, hc⟩ => .inr ⟨b, off, cap, e, hne, hl, hm, hb, fun j hj => (h.cell (p := ⟨b, off + j, none⟩) hb).trans (hc j hj)⟩
theorem RdB.slice {n₀ : Nat} {A : World} {sv : Value} {bs : List Bool} : RdB n₀ A sv bs → ∃ a cap, sv = .slice a bs.length cap ∧ bs.length ≤ cap ∧ cap ≤ 9223372036854775807
  | .inl ⟨a, cap, e, hz, hm⟩ => ⟨a, cap, by rw [e, hz]; rfl, by rw [hz]; exact Nat.zero_le _, hm⟩
  | .inr ⟨b, off, cap, e, _, hl, hm, _⟩ => ⟨_, cap, e, hl, hm⟩
theorem RdB.cells {n₀ : Nat} {w : World} {sv : Value} {bs : List Bool} (h : RdB n₀ w sv bs) (hne : 0 < bs.length) : ∃ b off cap, sv = .slice (some ⟨b, off, none⟩) bs.length cap ∧ bs.length ≤ cap ∧ cap ≤ 9223372036854775807 ∧ b < n₀ ∧ ∀ j, j < bs.length → w.cell? ⟨b, off + j, none⟩ = some (.bool (bs[j]?.getD false)) := by
  rcases h with ⟨a, cap, e, hz, _⟩ | ⟨b, off, cap, e, _, hl, hm, hb, hc⟩
  · subst hz; simp at hne
  · exact ⟨b, off, cap, e, hl, hm, hb, hc⟩
theorem Rd.cells' {n₀ : Nat} {w : World} {sv : Value} {zs : List Int} (h : Rd n₀ w sv zs) (hne : 0 < zs.length) : ∃ b off cap, sv = .slice (some ⟨b, off, none⟩) zs.length cap ∧ zs.length ≤ cap ∧ cap ≤ 9223372036854775807 ∧ b < n₀ ∧ ∀ j, j < zs.length → w.cell? ⟨b, off + j, none⟩ = some (.int .u8 (zs[j]?.getD 0)) := by
  rcases h with ⟨a, cap, e, hz, _⟩ | ⟨b, off, cap, e, _, hl, hm, hb, hc⟩
  · subst hz; simp at hne
  · exact ⟨b, off, cap, e, hl, hm, hb, hc⟩

def boolOf {H : Type} (y : DataW H × List MemPlace) : Bool := match y.1 with | .lit (.bool b) => b | _ => false

theorem open_bools {H : Type} {enc : TypeId × Value → H} {W : World} {n : Nat} {c : Value} {y : DataW H × List MemPlace} (h : DataW.trod enc Try.prog W 0 (fun _ => true) true n 33 [c] = some y) : ∃ bs, RdB W.heap.size W c bs := by
  rcases DataW.trod_slice Try.underlying33 h with ⟨hcs, _⟩ | ⟨a, len, cap, elems, rest, n, _, hcs, rfl, hb, hl, hm, hlen, hel, hsp, hns⟩
  · simp at hcs
    subst hcs
    exact ⟨[], .inl ⟨_, _, rfl, rfl, by omega⟩⟩
  · simp at hcs
    subst hcs
    have hc1 : Try.prog.cellsOf 4 = 1 := by kernel_rfl
    by_cases h0 : len = 0
    · subst h0
      exact ⟨[], .inl ⟨_, _, rfl, rfl, by simpa [maxLen] using hm⟩⟩
    have each : ∀ i, i < len → W.cell? (a.add i) = some (.bool ((elems.map boolOf)[i]?.getD false)) := fun i hi => by
      have h1 := hel i hi
      rw [hc1, Nat.mul_one] at h1
      have hy : elems[i]? = some (elems[i]'(by omega)) := List.getElem?_eq_getElem (by omega)
      rw [hy, Option.bind_eq_some_iff] at h1
      obtain ⟨cs', hcs, hy'⟩ := h1
      obtain ⟨b, rfl, e⟩ := DataW.trod_bool Try.underlying4 hy'
      rw [cell_of_cells?_one hcs, List.getElem?_map, hy, e]
      rfl
    obtain ⟨b, off, spot⟩ := a
    have hc := each 0 (by omega)
    have hspot : spot = none := by simpa [Addr.add] using World.cell?_spot hc
    subst hspot
    refine ⟨elems.map boolOf, .inr ⟨b, off, cap, by simp [hlen], fun e => by simp at e; subst e; simp at hlen; omega, by simp [hlen]; omega, by simpa [maxLen] using hm, ?_, fun j hj => ?_⟩⟩
    · have := World.block_lt_of_cell? W _ hc
      simpa [Addr.add] using this
    · have := each j (by simpa [hlen] using hj)
      rw [show (⟨b, off, none⟩ : Addr).add j = ⟨b, off + j, none⟩ from by unfold Addr.add; split <;> simp_all] at this
      exact this
end Go.Proofs.Ytbkggohjbigbgaa
