/- Package wire's walk over words, and its check sum: Sum of bytes is what the mathematics says, and nothing that was there has turned. -/
import Derived.RangeFuncNested
import Derived.RangeFuncBound
import Derived.RangeFuncCalls
import Derived.RangeFuncLeaves
import Derived.RangeFuncBox
import Derived.Shelf.Abstract
import Derived.Shelf.RegionOpen
import Derived.OwnWalkIn
import Derived.TacticsInMore
import Derived.LoopNIn
import Derived.LoopIn
import Derived.Test.YtehdgndbloaljaaDoorW1
namespace Go.Proofs.YtehdgndbloaljaaDoor
open Go.RowKit Go.Shelf
set_option maxRecDepth 100000
attribute [local go_sem] Oper.semAt_some

abbrev U16 := { x : Int // 0 ≤ x ∧ x ≤ 65535 }

/-- The word of two bytes; what is not there is 0. -/
def wat (zs : List Int) (k : Nat) : Int := zs[k]?.getD 0 * 256 + zs[k + 1]?.getD 0
theorem wat_bd {zs : List Int} (h : Mt.By zs) (k : Nat) : 0 ≤ wat zs k ∧ wat zs k ≤ 65535 := by
  have := h.at k; have := h.at (k + 1); unfold wat; omega

def wd (zs : List Int) (h : Mt.By zs) (k : Nat) : U16 := ⟨wat zs (2 * k), wat_bd h _⟩
def wds (zs : List Int) (h : Mt.By zs) (k : Nat) : List U16 := (List.range k).map (wd zs h)
theorem wds_succ (zs : List Int) (h : Mt.By zs) (k : Nat) : wds zs h (k + 1) = wds zs h k ++ [wd zs h k] := by simp [wds, List.range_succ]
theorem wds_length (zs : List Int) (h : Mt.By zs) (k : Nat) : (wds zs h k).length = k := by simp [wds]
def sm (l : List U16) : Int := (l.map (·.1)).sum
theorem sm_snoc (l : List U16) (x : U16) : sm (l ++ [x]) = sm l + x.1 := by simp [sm]
theorem sm_bd : ∀ l : List U16, 0 ≤ sm l ∧ sm l ≤ 65535 * l.length
  | [] => by simp [sm]
  | x :: r => by have := sm_bd r; have := x.2; simp [sm] at *; omega
theorem sm_wds (zs : List Int) (h : Mt.By zs) : ∀ k, 2 * k ≤ zs.length + 1 → sm (wds zs h k) = Mt.tw true (zs.take (2 * k))
  | 0, _ => by simp [wds, sm, Mt.tw]
  | k + 1, hk => by
    rw [wds_succ, sm_snoc, sm_wds zs h k (by omega)]
    by_cases hl : 2 * k + 1 < zs.length
    · rw [show 2 * (k + 1) = 2 * k + 2 from by omega, Mt.tw_two zs (2 * k) (by omega) hl]
      rfl
    · have e1 : zs.take (2 * (k + 1)) = zs.take (2 * k + 1) := by
        rw [List.take_of_length_le (by omega), List.take_of_length_le (by omega)]
      rw [e1, Mt.tw_one zs (2 * k) (by omega) (by omega)]
      simp [wd, wat, show ¬ 2 * k + 1 < zs.length from hl]
theorem sm_all (zs : List Int) (h : Mt.By zs) : sm (wds zs h ((zs.length + 1) / 2)) = Mt.tw true zs := by
  rw [sm_wds zs h _ (by omega), List.take_of_length_le (by omega)]

/-- What a round keeps: whatever lies below n₀, and the box at Bs. -/
def KB (n₀ Bs : Nat) (W W' : World) : Prop := Below n₀ W W' ∧ W'.heap[Bs]? = W.heap[Bs]?
theorem KB.refl (n₀ Bs : Nat) (W : World) : KB n₀ Bs W W := ⟨Below.refl _ _, rfl⟩
theorem KB.trans {n₀ Bs : Nat} {A B C : World} (h : KB n₀ Bs A B) (k : KB n₀ Bs B C) : KB n₀ Bs A C := ⟨h.1.trans k.1, k.2.trans h.2⟩
theorem KB.drewN {n₀ Bs : Nat} {A B : World} (h : KB n₀ Bs A B) (q : Nat) : KB n₀ Bs A (B.drewN q) := ⟨h.1.trans ⟨rfl, rfl, rfl, Nat.le_refl _, fun _ _ => rfl⟩, h.2⟩
theorem KB.box {n₀ Bs : Nat} {A B : World} (h : KB n₀ Bs A B) {o : Nat} : B.cell? ⟨Bs, o, none⟩ = A.cell? ⟨Bs, o, none⟩ := World.cell?_of_block (w := A) h.2
theorem grownBy_drewN (W : World) (q : Nat) : W.grownBy (W.drewN q) none := ⟨rfl, rfl, rfl, Nat.le_refl _, fun _ _ _ => rfl⟩

end Go.Proofs.YtehdgndbloaljaaDoor
