/- Package pool: TrailingZeros64. -/
import Derived.Test.YtomdccljoaieeaaDoorPC
namespace Go.Proofs.YtomdccljoaieeaaDoor
open Go.RowKit Go.Shelf
set_option maxRecDepth 100000
attribute [local go_sem] Oper.semAt_some
set_option linter.unusedVariables false
set_option linter.unusedSimpArgs false

/-- The library's table of places. -/
def Dz (w : World) : Prop := ∀ j, j < 64 → w.cell? ⟨0, j, none⟩ = some (.int .u8 (Lib.deBruijn64tab.getD j 0 : Nat))
theorem Dz.pos {w : World} (h : Dz w) : 0 < w.heap.size := World.block_lt_of_cell? w ⟨0, 0, none⟩ (h 0 (by omega))
theorem Dz.below {w w' : World} {n : Nat} (h : Dz w) (hb : Below n w w') (hn : 0 < n) : Dz w' := fun i hi => (hb.cell (p := ⟨0, i, none⟩) hn).trans (h i hi)
theorem Dz.later {w w' : World} (h : Dz w) (l : Later w w') : Dz w' := h.below l h.pos

theorem wpList_ld {P : Program} {ops : Array Oper} {rest : List Oper} {o : Oper} {a : Act} {Q : Exit → Act → World → Prop} {w : World} (hg : o.guard = none) (t : TypeId) (x : Operand) (ho : o.op = .load t x) (p : Addr) (hx : a.eval x = .pointer (some p)) (v : Value) (hl : (Instr.loadAt t (.pointer (some p))).run P w = .ok v w)
    (hk : wpList P ops Q rest (a.put o.dst v) w) : wpList P ops Q (o :: rest) a w := wpList_plain hg fun K hK => by
  unfold Oper.wp execOp
  simp only [ho, hx, Sem.run_bind, hl, Result.andThen_ok, Sem.run_pure]
  exact hK _ _ hk

theorem tz_key (x a : Nat) (hx : x < 18446744073709551616) (hx0 : x ≠ 0) (hlow : x &&& (18446744073709551616 - x) = a) :
    IntKind.u64.wrap (bits BinOp.and IntKind.u64 (x : Int) (IntKind.u64.wrap (-(x : Int))) * 285870213051353865) / 288230376151711744 = ((a * 285870213051353865 % 18446744073709551616 / 288230376151711744 : Nat) : Int) := by
  have e1 : IntKind.u64.wrap (-(x : Int)) = ((18446744073709551616 - x : Nat) : Int) := by rw [IntKind.wrap_u64]; omega
  rw [e1, bits_and_u64_nat x _ hx (by omega), hlow, IntKind.wrap_u64]
  omega

set_option maxHeartbeats 400000 in
theorem tz_core (x idx : Nat) (kk : Int) (w : World) (hx0 : ((x : Int) == 0) = false) (HK : Hid (IntKind.u64.wrap (bits BinOp.and IntKind.u64 (x : Int) (IntKind.u64.wrap (-(x : Int))) * 285870213051353865) / 288230376151711744 = (idx : Int))) (hi' : (idx : Int) < 64) (HLD : Hid ((Instr.loadAt 5 (.pointer (some ⟨0, idx, none⟩))).run Tryd.prog w = .ok (.int .u8 kk) w)) :
    Calls Tryd.prog 46 #[.int .u64 (x : Int)] w fun e w' => e = .returned (.int .i64 (wrap64 kk)) ∧ w' = w := by
  go_enter Tryd.func46, Tryd.ntmps46
  go_upto_region 3 with fail
  go_wp2_with (first | rw [HK.out] | (refine wpList_ld rfl 5 (.tmp 11) rfl ⟨0, idx, none⟩ rfl (.int .u8 kk) HLD.out ?_))
  go_ret
  exact ⟨rfl, rfl⟩

theorem tz_any (x : Nat) (w : World) (hx : x < 18446744073709551616) (h0 : x ≠ 0) (hT : Dz w) :
    Calls Tryd.prog 46 #[.int .u64 (x : Int)] w fun e w' => e = .returned (.int .i64 (Lib.ctz 64 x : Nat)) ∧ w' = w := by
  obtain ⟨hlow, hk⟩ := Lib.lowest_bit 64 x h0 hx
  obtain ⟨hi, htab⟩ := Lib.deBruijn64_at _ hk
  have hcell := hT _ hi
  rw [htab] at hcell
  have key := tz_key x _ hx h0 hlow
  have hwk : wrap64 (Lib.ctz 64 x : Int) = (Lib.ctz 64 x : Int) := by unfold wrap64; omega
  have h := tz_core x _ (Lib.ctz 64 x : Nat) w (by simp; omega) (hide key) (by omega) (hide (by simp [Instr.loadAt, go_sem, hcell]))
  rw [hwk] at h
  exact h
end Go.Proofs.YtomdccljoaieeaaDoor
