/- Package rules: nil rules; live. -/
import Derived.Test.YtgjemeibaghfaabYJ
namespace Go.Proofs.Ytgjemeibaghfaab
open Go.RowKit Go.Shelf
set_option maxRecDepth 100000
set_option linter.unusedVariables false
set_option linter.unusedSimpArgs false

set_option maxHeartbeats 1000000 in
theorem add9_nil (x : Ru) (w : World) : Calls Try.prog 6 #[.pointer none, .agg (ruc x).toArray] w fun e w' => e = .returned (.int .i64 1) ∧ Later w w' := by
  have lb0 : Later w (w.alloc (.cells #[.int .i64 x.kind, .int .u8 x.proto, .int .u32 x.net, .int .i64 x.bits, .int .u32 x.to, .int .u16 x.port, .int .u32 x.host, .int .u16 x.hp] 30)) := (Below.refl _ _).alloc (Nat.le_refl _) _
  go_enter Try.func6, Try.ntmps6
  unfold ruc
  go_wp2_with fail
  go_ret
  exact ⟨rfl, lb0⟩

set_option maxHeartbeats 1000000 in
theorem drop9_nil (i : Int) (w : World) : Calls Try.prog 9 #[.pointer none, .int .i64 i] w fun e w' => e = .returned (.int .i64 1) ∧ w' = w := by
  go_enter Try.func9, Try.ntmps9
  go_wp2_with fail
  go_ret
  exact ⟨rfl, rfl⟩

def liveR : Ru := ⟨1, 0, 167772160, 8, 5, 0, 0, 0⟩
theorem live_adE : adE [] liveR = 0 := by decide +kernel
theorem live_adL : adL [] liveR = [liveR] := adL_yes live_adE
theorem live_ok : okL [liveR] := by
  rw [← live_adL]
  exact okL_add ⟨by simp, fun x hx => by cases hx⟩ (by unfold wfR liveR; simp)
theorem live_yes : fnd (mqB 167838211) [liveR] = liveR ∧ fdb (mqB 167838211) [liveR] = true := by decide +kernel
theorem live_no : fdb (mqB 184615427) [liveR] = false := by decide +kernel

set_option maxHeartbeats 2000000 in
theorem live9_any (w : World) : Calls Try.prog 8 #[] w fun e w' => e = .returned (.bool true) ∧ Later w w' := by
  go_enter Try.func8, Try.ntmps8
  go_wp2_with fail
  refine (new9_any w).mono ?_
  rintro e w1 ⟨rfl, l1, hT1⟩
  have hs1 := l1.size
  go_wp2_with fail
  refine (add9_any w.heap.size w.heap.size (.slice none 0 0) [] liveR w1 hT1 (by unfold wfR liveR; simp) (by simp) hs1).mono ?_
  rw [live_adE, live_adL]
  rintro e w2 ⟨rfl, v2, hT2, hb2, _⟩
  have l2 : Later w w2 := Below.trans l1 (hb2.below hs1 (fun k hk e => by rcases e with rfl | e; (· omega); (· cases e)))
  clear hb2
  go_wp2_with fail
  refine (masq_any w.heap.size (some ⟨w.heap.size, 0, none⟩) [liveR] 167838211 w2 (.inr ⟨_, _, rfl, hT2⟩) live_ok (by omega)).mono ?_
  rw [live_yes.1, live_yes.2]
  rintro e w3 ⟨rfl, l3⟩
  have la : Later w3 (w3.alloc (.cells (ruc liveR).toArray 30)) := (Below.refl _ _).alloc (Nat.le_refl _) _
  have c3 := heap_alloc_new w3 (.cells (ruc liveR).toArray 30)
  have hT3 := hT2.later (l3.trans la)
  unfold ruc liveR at la c3 hT3
  unfold ruc
  simp only [liveR]
  go_wp2_with fail
  generalize w3.alloc _ = w4 at *
  refine (masq_any w.heap.size (some ⟨w.heap.size, 0, none⟩) [liveR] 184615427 w4 (.inr ⟨_, _, rfl, hT3⟩) live_ok (by omega)).mono ?_
  rw [live_no]
  generalize fnd (mqB 184615427) [liveR] = r
  rintro e w5 ⟨rfl, l5⟩
  have la5 : Later w5 (w5.alloc (.cells (ruc r).toArray 30)) := (Below.refl _ _).alloc (Nat.le_refl _) _
  have c5 := later_keep (l5.trans la5) c3
  have k5 := block_cell c5
  unfold ruc at la5 k5
  unfold ruc
  go_wp2_with fail
  go_ret
  exact ⟨rfl, (l2.trans l3).trans (la.trans (l5.trans la5))⟩
end Go.Proofs.Ytgjemeibaghfaab
