/- The walk of TopNets. -/
import Derived.Test.YtgjemeibaghfaabYK
namespace Go.Proofs.Ytgjemeibaghfaab
open Go.RowKit Go.Shelf
set_option maxRecDepth 100000
set_option linter.unusedVariables false
set_option linter.unusedSimpArgs false

def nr1 : Ru := ⟨1, 0, 167837696, 16, 1, 0, 0, 0⟩
def nr2 : Ru := ⟨1, 0, 167772160, 8, 2, 0, 0, 0⟩
theorem nets_add : adE [] nr1 = 0 ∧ adE [nr1] nr2 = 0 := by decide +kernel
theorem nets_list : adL [] nr1 = [nr1] ∧ adL [nr1] nr2 = [nr1, nr2] := ⟨adL_yes nets_add.1, adL_yes nets_add.2⟩
theorem nr_wf : wfR nr1 ∧ wfR nr2 := by unfold wfR nr1 nr2; simp
theorem nets_ok : okL [nr1, nr2] := by
  rw [← nets_list.2, ← nets_list.1]
  exact okL_add (okL_add ⟨by simp, fun x hx => by cases hx⟩ nr_wf.1) nr_wf.2
theorem nets_q1 (src : Int) : mqB src nr1 = decide (src / 65536 = 2561) := by
  unfold mqB nr1 upp
  simp only [decide_true, Bool.true_and]
  rw [show ((16 : Int).toNat) = 16 from rfl]
  simp only [Nat.reduceSub, Int.reducePow]
  congr 1
  apply propext
  omega
theorem nets_q2 (src : Int) : mqB src nr2 = decide (src / 16777216 = 10) := by
  unfold mqB nr2 upp
  simp only [decide_true, Bool.true_and]
  rw [show ((8 : Int).toNat) = 8 from rfl]
  simp only [Nat.reduceSub, Int.reducePow]
  congr 1
  apply propext
  omega
theorem nets_fnd (src : Int) : (src / 65536 = 2561 → fnd (mqB src) [nr1, nr2] = nr1 ∧ fdb (mqB src) [nr1, nr2] = true) ∧ (¬ src / 65536 = 2561 → src / 16777216 = 10 → fnd (mqB src) [nr1, nr2] = nr2 ∧ fdb (mqB src) [nr1, nr2] = true) ∧ (¬ src / 65536 = 2561 → ¬ src / 16777216 = 10 → fnd (mqB src) [nr1, nr2] = zRu ∧ fdb (mqB src) [nr1, nr2] = false) := by
  unfold fnd fdb
  refine ⟨fun h => ?_, fun h h2 => ?_, fun h h2 => ?_⟩ <;> simp [List.find?, nets_q1, nets_q2, *]

set_option maxHeartbeats 4000000 in
theorem walk_TopNets (w : World) (src : Int) (hs : 0 ≤ src ∧ src ≤ 4294967295) :
    Calls Try.prog 4 #[.int .u32 src] w fun e w' => e = .returned (.bool true) ∧ Below w.heap.size w w' := by
  have HF := hide (nets_fnd src)
  go_enter Try.func4, Try.ntmps4
  go_wp2_with fail
  refine (new9_any w).mono ?_
  rintro e w1 ⟨rfl, l1, hT1⟩
  have hs1 := l1.size
  go_wp2_with fail
  refine (add9_any w.heap.size w.heap.size (.slice none 0 0) [] nr1 w1 hT1 nr_wf.1 (by simp) hs1).mono ?_
  rw [nets_add.1, nets_list.1]
  rintro e w2 ⟨rfl, v2, hT2, hb2, f2⟩
  have l2 : Later w w2 := Below.trans l1 (hb2.below hs1 (fun k hk e => by rcases e with rfl | e; (· omega); (· cases e)))
  have hs2 := l2.size
  clear hb2
  go_wp2_with fail
  refine (add9_any w.heap.size w.heap.size v2 [nr1] nr2 w2 hT2 nr_wf.2 (by simp) hs2).mono ?_
  rw [nets_add.2, nets_list.2]
  rintro e w3 ⟨rfl, v3, hT3, hb3, f3⟩
  have l3 : Later w w3 := Below.trans l2 (hb3.below hs2 (fun k hk e => by rcases e with rfl | e; (· omega); (· have := (hT2.lt e).1; omega)))
  clear hb3
  go_wp2_with fail
  refine (masq_any w.heap.size (some ⟨w.heap.size, 0, none⟩) [nr1, nr2] src w3 (.inr ⟨_, _, rfl, hT3⟩) nets_ok hs).mono ?_
  rintro e w4 ⟨rfl, l4⟩
  generalize fnd (mqB src) [nr1, nr2] = m at *
  generalize fdb (mqB src) [nr1, nr2] = tm at *
  have la4 : Later w4 (w4.alloc (.cells #[.int .i64 m.kind, .int .u8 m.proto, .int .u32 m.net, .int .i64 m.bits, .int .u32 m.to, .int .u16 m.port, .int .u32 m.host, .int .u16 m.hp] 30)) := (Below.refl _ _).alloc (Nat.le_refl _) _
  have z4 := heap_alloc_new w4 (.cells #[.int .i64 m.kind, .int .u8 m.proto, .int .u32 m.net, .int .i64 m.bits, .int .u32 m.to, .int .u16 m.port, .int .u32 m.host, .int .u16 m.hp] 30)
  have L5 := l3.trans (l4.trans la4)
  unfold ruc
  go_upto_region 5 with fail
  generalize w4.alloc _ = w5 at *
  generalize w4.heap.size = B at *
  have k5 := block_cell z4
  have hd : src / 65536 = 2561 → src / 16777216 = 10 := fun h => by omega
  by_cases h1 : src / 65536 = 2561
  · obtain ⟨rfl, rfl⟩ := HF.out.1 h1
    have h2 := hd h1
    clear hd HF
    unfold nr1 at k5
    go_wp2_with fail
    go_ret
    exact ⟨rfl, L5⟩
  · by_cases h2 : src / 16777216 = 10
    · obtain ⟨rfl, rfl⟩ := HF.out.2.1 h1 h2
      clear hd HF
      unfold nr2 at k5
      go_wp2_with fail
      go_ret
      exact ⟨rfl, L5⟩
    · obtain ⟨rfl, rfl⟩ := HF.out.2.2 h1 h2
      clear hd HF
      unfold zRu at k5
      go_wp2_with fail
      go_ret
      exact ⟨rfl, L5⟩
end Go.Proofs.Ytgjemeibaghfaab
