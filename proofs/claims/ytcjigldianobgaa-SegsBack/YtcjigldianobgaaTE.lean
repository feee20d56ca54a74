/- The document's answer whether a packet is right. -/
import Derived.Test.YtcjigldianobgaaV5
namespace Go.Proofs.Ytcjigldianobgaa
open Go.RowKit Go.Shelf
set_option maxRecDepth 100000
set_option linter.unusedVariables false

set_option maxHeartbeats 1000000 in
theorem rright3_any (tos id ttl proto src dst : Int) (keep : Bool) (ao ad : Option Addr) (lo co ld cd : Nat) (w : World) (h1 : lo ≤ 140737488355328) (h2 : ld ≤ 140737488355328) :
    Calls Try.prog 21 #[.agg #[.int .u8 tos, .int .u16 id, .bool keep, .int .u8 ttl, .int .u8 proto, .int .u32 src, .int .u32 dst, .slice ao lo co, .slice ad ld cd]] w fun e w' => e = .returned (.bool (flt lo ld == 0)) ∧ Below w.heap.size w w' := by
  have hbox : Below w.heap.size w (w.alloc (.cells #[.int .u8 tos, .int .u16 id, .bool keep, .int .u8 ttl, .int .u8 proto, .int .u32 src, .int .u32 dst, .slice ao lo co, .slice ad ld cd] 26)) := (Below.refl _ _).alloc (Nat.le_refl _) _
  by_cases c1 : lo ≤ 40
  · have t1 : (lo : Int) ≤ 40 := by omega
    by_cases c2 : lo % 4 = 0
    · have t2 : ((lo : Int) % 4 == 0) = true := by simp; omega
      by_cases c3 : 20 + lo + ld ≤ 65535
      · have t3 : (20 : Int) + lo + ld ≤ 65535 := by omega
        have HF : Hid (flt lo ld = 0) := by show _ = _; unfold flt; rw [if_neg (by omega), if_neg (by omega)]
        clear c1 c2 c3
        go_enter Try.func21, Try.ntmps21
        go_wp2
        go_ret
        exact ⟨by rw [HF.out]; rfl, hbox⟩
      · have t3 : ¬ (20 : Int) + lo + ld ≤ 65535 := by omega
        have HF : Hid (flt lo ld = 8) := by show _ = _; unfold flt; rw [if_neg (by omega), if_pos (by omega)]
        clear c1 c2 c3
        go_enter Try.func21, Try.ntmps21
        go_wp2
        go_ret
        exact ⟨by rw [HF.out]; rfl, hbox⟩
    · have t2 : ((lo : Int) % 4 == 0) = false := by simp; omega
      have HF : Hid (flt lo ld = 4) := by show _ = _; unfold flt; rw [if_pos (by omega)]
      clear c1 c2
      go_enter Try.func21, Try.ntmps21
      go_wp2
      go_ret
      exact ⟨by rw [HF.out]; rfl, hbox⟩
  · have t1 : ¬ (lo : Int) ≤ 40 := by omega
    have HF : Hid (flt lo ld = 4) := by show _ = _; unfold flt; rw [if_pos (by omega)]
    clear c1
    go_enter Try.func21, Try.ntmps21
    go_wp2
    go_ret
    exact ⟨by rw [HF.out]; rfl, hbox⟩

end Go.Proofs.Ytcjigldianobgaa
