/- The walk of TopHandshake. -/
import Derived.Test.YtbkggohjbigbgabKF
namespace Go.Proofs.Ytbkggohjbigbgab
open Go.RowKit Go.Shelf
set_option maxRecDepth 100000
set_option linter.unusedVariables false
set_option linter.unusedSimpArgs false

theorem next_lit {s n : Int} {b : Bool} {fl : Int} (h : nx s b fl = n) (w : World) : Calls Try.prog 6 #[.int .i64 s, .bool b, .int .u8 fl] w fun e w' => e = .returned (.tuple #[.int .i64 n, .bool (n != 0)]) ∧ Below w.heap.size w w' := by
  rw [← h]; exact next_any s b fl w

theorem nx_shake : nx 0 false 2 = 1 ∧ nx 1 true 18 = 2 ∧ nx 2 false 16 = 3 ∧ (∀ b, nx 3 b 24 = 3) ∧ nx 3 false 17 = 4 ∧ nx 4 true 17 = 5 ∧ nx 5 false 16 = 6 := by decide +kernel

set_option maxHeartbeats 4000000 in
theorem walk_TopHandshake (w : World) (vb : Value) (bs : List Bool) (hIb : RdB w.heap.size w vb bs) :
    Calls Try.prog 5 #[vb] w fun e w' => e = .returned (.bool true) ∧ Below w.heap.size w w' := by
  obtain ⟨ab, cb, rfl, hcb, hmb⟩ := hIb.slice
  have hlb : (bs.length : Int) ≤ 9223372036854775807 := by omega
  obtain ⟨n1, n2, n3, n4, n5, n6, n7⟩ := nx_shake
  go_enter Try.func5, Try.ntmps5
  go_wp2_with fail
  refine (next_lit (n1) _).mono ?_
  rintro e w1 ⟨rfl, hb1⟩
  go_wp2_with fail
  refine (next_lit (n2) _).mono ?_
  rintro e w2 ⟨rfl, hb2⟩
  have hw2 := hb1.trans (hb2.mono hb1.size)
  go_wp2_with fail
  refine (next_lit (n3) _).mono ?_
  rintro e w3 ⟨rfl, hb3⟩
  have hw3 := hw2.trans (hb3.mono hw2.size)
  clear hb1 hb2 hb3
  go_wp2_with fail
  go_loopw [3, 7] (fun s i wr => ∃ k : Nat, k ≤ bs.length ∧ k ≤ 30 ∧ i = .int .i64 (k : Int) ∧ s = .int .i64 3 ∧ Below w.heap.size w wr) (fun _ i _ => bs.length - (intOf i).toNat)
  case atStart => exact ⟨0, by omega, by omega, rfl, rfl, hw3⟩
  case round =>
    obtain ⟨k, hk1, hk3, rfl, rfl, hbw⟩ := hrel
    by_cases hlt : k < bs.length ∧ k < 30
    · obtain ⟨l1, l3⟩ := hlt
      obtain ⟨b, off, cp, e, _, _, hbb, hcs⟩ := (hIb.below hbw).cells (by omega)
      simp at e
      obtain ⟨rfl, rfl⟩ := e
      have c1 := hcs k l1
      generalize bs[k]?.getD false = bk at *
      clear hcs
      have l1' : (k : Int) < bs.length := by omega
      have l3' : (k : Int) < 30 := by omega
      go_wp2_with fail
      refine (next_lit (n4 bk) _).mono ?_
      rintro e w4 ⟨rfl, hb4⟩
      have hw4 := hbw.trans (hb4.mono hbw.size)
      go_wp2_with fail
      go_roundw
      case rel => exact ⟨k + 1, by omega, by omega, by go_num, rfl, hw4⟩
      case measure => simp [intOf]; omega
    · have hcs : (bs.length : Int) ≤ k ∨ ((k : Int) < bs.length ∧ 30 ≤ (k : Int)) := by omega
      clear hlt
      rcases hcs with h1 | ⟨h0, h1⟩ <;>
      · go_wp2_with fail
        refine (next_lit (n5) _).mono ?_
        rintro e w4 ⟨rfl, hb4⟩
        have hw4 := hbw.trans (hb4.mono hbw.size)
        go_wp2_with fail
        refine (next_lit (n6) _).mono ?_
        rintro e w5 ⟨rfl, hb5⟩
        have hw5 := hw4.trans (hb5.mono hw4.size)
        go_wp2_with fail
        refine (next_lit (n7) _).mono ?_
        rintro e w6 ⟨rfl, hb6⟩
        have hw6 := hw5.trans (hb6.mono hw5.size)
        go_wp2_with fail
        refine (time_any 6 6 _).mono ?_
        rintro e w7 ⟨rfl, rfl⟩
        rw [show tm 6 6 = 120 from rfl]
        go_wp2_with fail
        refine (time_any 6 3 _).mono ?_
        rintro e w7 ⟨rfl, rfl⟩
        rw [show tm 6 3 = 432000 from rfl]
        go_wp2_with fail
        go_ret
        exact ⟨by simp, hw6⟩
end Go.Proofs.Ytbkggohjbigbgab
