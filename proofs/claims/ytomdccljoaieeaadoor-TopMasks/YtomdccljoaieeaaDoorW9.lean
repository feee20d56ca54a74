/- The document's answers for words put and got. -/
import Derived.Test.YtomdccljoaieeaaDoorW8
namespace Go.Proofs.YtomdccljoaieeaaDoor
open Go.RowKit Go.Shelf
set_option maxRecDepth 100000

/-- The word of two bytes where both are there, else 0; of four. -/
def getAt2 (zs : List Int) (p : Int) : Int := if 0 ≤ p ∧ p + 2 ≤ zs.length then wat zs p.toNat else 0
def getAt4 (zs : List Int) (p : Int) : Int := if 0 ≤ p ∧ p + 4 ≤ zs.length then wat4 zs p.toNat else 0

theorem get16_at {n₀ : Nat} (sv : Value) (zs : List Int) (hB : Mt.By zs) (p : Int) (w : World) (hI : Rd n₀ w sv zs) :
    Calls Tryd.prog 36 #[sv, .int .i64 p] w fun e w' => e = .returned (.int .u16 (getAt2 zs p)) ∧ ∃ n, w' = w.drewN n := by
  by_cases h : 0 ≤ p ∧ p + 2 ≤ zs.length
  · obtain ⟨n, rfl⟩ := Int.eq_ofNat_of_zero_le h.1
    unfold getAt2
    rw [if_pos h, Int.toNat_natCast]
    exact get16_rd sv zs hB n (by omega) w hI
  · unfold getAt2
    rw [if_neg h]
    obtain ⟨a, cap, rfl, h1, h2⟩ := hI.slice
    exact (get16_no a zs.length cap p w (by omega) (by omega)).mono fun e w' ⟨he, hw⟩ => ⟨he, 0, hw⟩

theorem get32_at {n₀ : Nat} (sv : Value) (zs : List Int) (hB : Mt.By zs) (p : Int) (w : World) (hI : Rd n₀ w sv zs) :
    Calls Tryd.prog 82 #[sv, .int .i64 p] w fun e w' => e = .returned (.int .u32 (getAt4 zs p)) ∧ ∃ n, w' = w.drewN n := by
  by_cases h : 0 ≤ p ∧ p + 4 ≤ zs.length
  · obtain ⟨n, rfl⟩ := Int.eq_ofNat_of_zero_le h.1
    unfold getAt4
    rw [if_pos h, Int.toNat_natCast]
    exact get32_rd sv zs hB n (by omega) w hI
  · unfold getAt4
    rw [if_neg h]
    obtain ⟨a, cap, rfl, h1, h2⟩ := hI.slice
    exact (get32_no a zs.length cap p w (by omega) (by omega)).mono fun e w' ⟨he, hw⟩ => ⟨he, 0, hw⟩

end Go.Proofs.YtomdccljoaieeaaDoor