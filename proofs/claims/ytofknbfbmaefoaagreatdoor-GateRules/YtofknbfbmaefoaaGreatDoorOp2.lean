import Derived.ProofKit
import Derived.OpenShut
import Derived.SizedLaws
import Derived.Lib.SmallJoins
import Derived.Test.YtofknbfbmaefoaaGreatDoorW4
namespace Go.Proofs.YtofknbfbmaefoaaGreatDoor
open Go.ChangeShapes Go.WideShapes Go.ChangeAt Go.RowKit Go.Joins
set_option maxRecDepth 100000
theorem open_bytes {H : Type} {enc : TypeId × Value → H} {W : World} {n : Nat} {c : Value} {y : DataW H × List MemPlace} (h : DataW.trod enc Tryz.prog W 0 (fun _ => true) true n 31 [c] = some y) :
  ∃ zs, Mt.By zs ∧ Rd W.heap.size W c zs ∧ ((DataW.weights Tryz.prog 31 y.1).all (· ≤ reachBytes) = true → zs.length ≤ 140737488351232) := by
 obtain ⟨a, l, cp, hc⟩ := slice_form Tryz.underlying31 h
 cases hc
 rcases open_ints Tryz.underlying31 Tryz.underlying5 (by kernel_rfl) h with ⟨hcs, _⟩ | ⟨x, l', c', zs, hcs, _, hl, hm, hz, hx, hcell, hwz⟩
 ·simp at hcs
  obtain ⟨rfl, rfl, rfl⟩ := hcs
  exact ⟨[], Mt.By.nil, .inl ⟨_, _, rfl, rfl, by omega, fun _ => rfl⟩, fun _ => by simp⟩
 ·simp at hcs
  obtain ⟨rfl, rfl, rfl⟩ := hcs
  rw [if_pos rfl] at hz
  obtain ⟨ys, hB, hI⟩ := rd_of_row x l cp zs hl (by simpa [maxLen] using hm) hz hcell hwz W.heap.size (fun h => row_block x zs hcell (by omega))
  refine ⟨ys, hB, hI, fun hw => ?_⟩
  obtain ⟨a', cap', e', h1, _⟩ := hI.slice
  cases e'
  subst hx
  have hb : Tryz.prog.bytesOf 5 = 1 := by kernel_rfl
  simp only [DataW.weights, Tryz.underlying31, List.all_cons, Bool.and_eq_true, hb, reachBytes] at hw
  have h2 := hw.1
  simp [lits] at h2
  omega
end Go.Proofs.YtofknbfbmaefoaaGreatDoor
