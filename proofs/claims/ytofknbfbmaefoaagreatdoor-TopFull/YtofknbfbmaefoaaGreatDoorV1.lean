import Derived.Test.YtofknbfbmaefoaaGreatDoorW7
namespace Go.Proofs.YtofknbfbmaefoaaGreatDoor
set_option maxHeartbeats 1000000
open Go.RowKit Go.Shelf
set_option maxRecDepth 100000
theorem sizes_any (tos id ttl proto src dst : Int) (keep : Bool) (ao ad : Option Addr) (lo co ld cd : Nat) (w : World) (h1 : lo ≤ 140737488355328) (h2 : ld ≤ 140737488355328) :
  Calls Tryz.prog 89 #[.agg #[.int .u8 tos, .int .u16 id, .bool keep, .int .u8 ttl, .int .u8 proto, .int .u32 src, .int .u32 dst, .slice ao lo co, .slice ad ld cd]] w fun e w' => e = .returned (.agg #[.int .i64 (20 + lo), .int .i64 (20 + lo + ld)]) ∧ Below w.heap.size w w' := by
 go_enter Tryz.func89, Tryz.ntmps89
 go_wp2
 exact bodyPost_ret (v := .agg #[.int .i64 (20 + lo), .int .i64 (20 + lo + ld)]) (by simp [results, Tryz.results89, go_sem]) rfl ⟨rfl, ((Below.refl _ _).alloc (Nat.le_refl _) _).alloc (by simp) _⟩
theorem fld_all (a b : Int) (w : World) : (Instr.field 200 (.agg #[.int .i64 a, .int .i64 b]) 1).run Tryz.prog w = .ok (.int .i64 b) w := by kernel_rfl
def flt (lo ld : Nat) : Int := if 40 < lo ∨ lo % 4 ≠ 0 then 4 else if 65535 < 20 + lo + ld then 8 else 0
theorem fault_any (tos id ttl proto src dst : Int) (keep : Bool) (ao ad : Option Addr) (lo co ld cd : Nat) (w : World) (h1 : lo ≤ 140737488355328) (h2 : ld ≤ 140737488355328) :
  Calls Tryz.prog 42 #[.agg #[.int .u8 tos, .int .u16 id, .bool keep, .int .u8 ttl, .int .u8 proto, .int .u32 src, .int .u32 dst, .slice ao lo co, .slice ad ld cd]] w fun e w' => e = .returned (.int .i64 (flt lo ld)) ∧ Below w.heap.size w w' := by
 have hbox : Below w.heap.size w (w.alloc (.cells #[.int .u8 tos, .int .u16 id, .bool keep, .int .u8 ttl, .int .u8 proto, .int .u32 src, .int .u32 dst, .slice ao lo co, .slice ad ld cd] 56)) := (Below.refl _ _).alloc (Nat.le_refl _) _
 by_cases c1 : 40 < lo
 ·have t1 : (40 : Int) < lo := by omega
  have HF : Hid (flt lo ld = 4) := by show _ = _; unfold flt; rw [if_pos (.inl c1)]
  go_enter Tryz.func42, Tryz.ntmps42
  go_wp2
  go_ret
  exact ⟨by rw [HF.out]; rfl, hbox⟩
 ·have t1 : ¬ (40 : Int) < lo := by omega
  by_cases c2 : lo % 4 = 0
  ·have t2 : ((lo : Int) % 4 != 0) = false := by simp; omega
   by_cases c3 : 65535 < 20 + lo + ld
   ·have t3 : (65535 : Int) < 20 + lo + ld := by omega
    have HF : Hid (flt lo ld = 8) := by show _ = _; unfold flt; rw [if_neg (by omega), if_pos c3]
    go_enter Tryz.func42, Tryz.ntmps42
    go_wp2_with fail
    refine (sizes_any tos id ttl proto src dst keep ao ad lo co ld cd _ h1 h2).mono ?_
    rintro e w1 ⟨rfl, hb1⟩
    have hfl := fld_all (20 + lo) (20 + lo + ld) w1
    clear c1 c2 c3 h1 h2
    go_wp2
    go_ret
    exact ⟨by rw [HF.out]; rfl, hbox.trans (hb1.mono (by simp))⟩
   ·have t3 : ¬ (65535 : Int) < 20 + lo + ld := by omega
    have HF : Hid (flt lo ld = 0) := by show _ = _; unfold flt; rw [if_neg (by omega), if_neg c3]
    go_enter Tryz.func42, Tryz.ntmps42
    go_wp2_with fail
    refine (sizes_any tos id ttl proto src dst keep ao ad lo co ld cd _ h1 h2).mono ?_
    rintro e w1 ⟨rfl, hb1⟩
    have hfl := fld_all (20 + lo) (20 + lo + ld) w1
    clear c1 c2 c3 h1 h2
    go_wp2
    go_ret
    exact ⟨by rw [HF.out]; rfl, hbox.trans (hb1.mono (by simp))⟩
  ·have t2 : ((lo : Int) % 4 != 0) = true := by simp; omega
   have HF : Hid (flt lo ld = 4) := by show _ = _; unfold flt; rw [if_pos (.inr c2)]
   go_enter Tryz.func42, Tryz.ntmps42
   go_wp2
   go_ret
   exact ⟨by rw [HF.out]; rfl, hbox⟩
end Go.Proofs.YtofknbfbmaefoaaGreatDoor
