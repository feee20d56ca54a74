/- The walks of TrackNext, TrackOther, TrackClosed, TrackFirst, TrackResets. -/
import Derived.Test.YtbkggohjbigbgaaKD
namespace Go.Proofs.Ytbkggohjbigbgaa
open Go.RowKit Go.Shelf
set_option maxRecDepth 100000
set_option linter.unusedVariables false
set_option linter.unusedSimpArgs false

theorem walk_TrackNext (w : World) (s : Int) (hs : -9223372036854775808 ≤ s ∧ s ≤ 9223372036854775807) (b : Bool) (fl : Int) (hfl : 0 ≤ fl ∧ fl ≤ 255) :
    Calls Try.prog 3 #[.int .i64 s, .bool b, .int .u8 fl] w fun e w' => e = .returned (.bool true) ∧ Below w.heap.size w w' := by
  go_enter Try.func3, Try.ntmps3
  go_wp2_with fail
  refine (next_any s b fl _).mono ?_
  rintro e w1 ⟨rfl, hb1⟩
  go_wp2_with fail
  refine (rnext_any s b fl _ hfl).mono ?_
  rintro e w2 ⟨rfl, rfl⟩
  generalize nx s b fl = n
  go_wp2_with fail
  refine (live7_any _).mono ?_
  rintro e w3 ⟨rfl, hb3⟩
  go_wp2_with fail
  refine (begins_any fl _).mono ?_
  rintro e w4 ⟨rfl, rfl⟩
  go_wp2_with fail
  refine (rbegins_any fl _ hfl).mono ?_
  rintro e w5 ⟨rfl, rfl⟩
  go_wp2_with fail
  go_ret
  exact ⟨by simp, hb1.trans (hb3.mono hb1.size)⟩

theorem walk_TrackOther (w : World) (p : Int) (hp : 0 ≤ p ∧ p ≤ 255) (s : Int) (hs : -9223372036854775808 ≤ s ∧ s ≤ 9223372036854775807) (b : Bool) :
    Calls Try.prog 4 #[.int .u8 p, .int .i64 s, .bool b] w fun e w' => e = .returned (.bool true) ∧ Below w.heap.size w w' := by
  go_enter Try.func4, Try.ntmps4
  go_wp2_with fail
  refine (live7_any _).mono ?_
  rintro e w1 ⟨rfl, hb1⟩
  go_wp2_with fail
  refine (other_any s b _).mono ?_
  rintro e w2 ⟨rfl, rfl⟩
  go_wp2_with fail
  refine (rother_any s b _).mono ?_
  rintro e w2 ⟨rfl, rfl⟩
  go_wp2_with fail
  refine (time_any p s _).mono ?_
  rintro e w2 ⟨rfl, rfl⟩
  go_wp2_with fail
  refine (rtime_any p s _).mono ?_
  rintro e w2 ⟨rfl, rfl⟩
  go_wp2_with fail
  refine (live_any s _).mono ?_
  rintro e w2 ⟨rfl, rfl⟩
  go_wp2_with fail
  refine (rlive_any s _).mono ?_
  rintro e w2 ⟨rfl, rfl⟩
  go_wp2_with fail
  go_ret
  exact ⟨by simp, hb1⟩

theorem nx_none (fl : Int) (hfl : 0 ≤ fl ∧ fl ≤ 255) : nx 0 true fl = 0 := by
  rw [nx_eq hfl]
  have key : ∀ R S F A : Bool, nb 0 true R S F A = 0 := by decide +kernel
  exact key _ _ _ _

theorem walk_TrackFirst (w : World) (fl : Int) (hfl : 0 ≤ fl ∧ fl ≤ 255) :
    Calls Try.prog 6 #[.int .u8 fl] w fun e w' => e = .returned (.bool true) ∧ Below w.heap.size w w' := by
  go_enter Try.func6, Try.ntmps6
  go_wp2_with fail
  refine (next_any 0 true fl _).mono ?_
  rw [nx_none fl hfl]
  rintro e w1 ⟨rfl, hb1⟩
  go_wp2_with fail
  refine (live7_any _).mono ?_
  rintro e w3 ⟨rfl, hb3⟩
  go_wp2_with fail
  go_ret
  exact ⟨by simp, hb1.trans (hb3.mono hb1.size)⟩

/-- What closed and no flow do, in one list of cases. -/
theorem nx_closed (b : Bool) (fl : Int) (hfl : 0 ≤ fl ∧ fl ≤ 255) : (b = false ∧ bgn fl = true ∧ nx 7 b fl = 1 ∧ nx 0 b fl = 1) ∨ ((b = true ∨ b = false ∧ bgn fl = false) ∧ (nx 7 b fl = 7 ∨ nx 7 b fl = 0) ∧ nx 0 b fl = 0) := by
  rw [nx_eq hfl, nx_eq hfl, bgn_eq hfl]
  have key : ∀ b R S F A : Bool, (b = false ∧ (S && !F && !R && !A) = true ∧ nb 7 b R S F A = 1 ∧ nb 0 b R S F A = 1) ∨ ((b = true ∨ b = false ∧ (S && !F && !R && !A) = false) ∧ (nb 7 b R S F A = 7 ∨ nb 7 b R S F A = 0) ∧ nb 0 b R S F A = 0) := by decide +kernel
  exact key _ _ _ _ _

set_option maxHeartbeats 1000000 in
theorem walk_TrackClosed (w : World) (b : Bool) (fl : Int) (hfl : 0 ≤ fl ∧ fl ≤ 255) :
    Calls Try.prog 5 #[.bool b, .int .u8 fl] w fun e w' => e = .returned (.bool true) ∧ Below w.heap.size w w' := by
  rcases nx_closed b fl hfl with ⟨rfl, hg, h7, h0⟩ | ⟨rfl | ⟨rfl, hg⟩, h7 | h7, h0⟩
  · go_enter Try.func5, Try.ntmps5
    go_wp2_with fail
    refine (next_any 7 false fl _).mono ?_
    rw [h7]
    rintro e w1 ⟨rfl, hb1⟩
    go_wp2_with fail
    refine (next_any 0 false fl _).mono ?_
    rw [h0]
    rintro e w2 ⟨rfl, hb2⟩
    go_wp2_with fail
    refine (begins_any fl _).mono ?_
    rw [hg]
    rintro e w4 ⟨rfl, rfl⟩
    go_wp2_with fail
    refine (live7_any _).mono ?_
    rintro e w3 ⟨rfl, hb3⟩
    go_wp2_with fail
    go_ret
    exact ⟨by simp, (hb1.trans (hb2.mono hb1.size)).trans (hb3.mono (Nat.le_trans hb1.size hb2.size))⟩
  all_goals
    go_enter Try.func5, Try.ntmps5
    go_wp2_with fail
    refine (next_any 7 _ fl _).mono ?_
    rw [h7]
    rintro e w1 ⟨rfl, hb1⟩
    go_wp2_with fail
    refine (next_any 0 _ fl _).mono ?_
    rw [h0]
    rintro e w2 ⟨rfl, hb2⟩
    go_wp2_with fail
  · refine (live7_any _).mono ?_
    rintro e w3 ⟨rfl, hb3⟩
    go_wp2_with fail
    go_ret
    exact ⟨by simp, (hb1.trans (hb2.mono hb1.size)).trans (hb3.mono (Nat.le_trans hb1.size hb2.size))⟩
  · refine (live7_any _).mono ?_
    rintro e w3 ⟨rfl, hb3⟩
    go_wp2_with fail
    go_ret
    exact ⟨by simp, (hb1.trans (hb2.mono hb1.size)).trans (hb3.mono (Nat.le_trans hb1.size hb2.size))⟩
  all_goals
    refine (begins_any fl _).mono ?_
    rw [hg]
    rintro e w4 ⟨rfl, rfl⟩
    go_wp2_with fail
    refine (live7_any _).mono ?_
    rintro e w3 ⟨rfl, hb3⟩
    go_wp2_with fail
    go_ret
    exact ⟨by simp, (hb1.trans (hb2.mono hb1.size)).trans (hb3.mono (Nat.le_trans hb1.size hb2.size))⟩

theorem bits_or4 : ∀ n : Nat, n < 256 → (bits .and .u8 (bits .or .u8 n 4) 4 != 0) = true ∧ 0 ≤ bits .or .u8 n 4 ∧ bits .or .u8 n 4 ≤ 255 := by decide +kernel
theorem nx_reset {s fl : Int} {b : Bool} (hfl : 0 ≤ fl ∧ fl ≤ 255) (h4 : (bits .and .u8 fl 4 != 0) = true) : ((1 ≤ s ∧ s ≤ 7) ∧ nx s b fl = 7) ∨ ((s < 1 ∨ 7 < s) ∧ nx s b fl = 0) := by
  rw [nx_eq hfl, h4]
  by_cases h : s < 0 ∨ 7 < s
  · right
    refine ⟨by omega, ?_⟩
    have key : ∀ S F A : Bool, nb s b true S F A = 0 := fun S F A => by unfold nb; rw [row7_other h]; cases S <;> cases F <;> rfl
    exact key _ _ _
  have key : ∀ b S F A : Bool, nb 0 b true S F A = 0 ∧ nb 1 b true S F A = 7 ∧ nb 2 b true S F A = 7 ∧ nb 3 b true S F A = 7 ∧ nb 4 b true S F A = 7 ∧ nb 5 b true S F A = 7 ∧ nb 6 b true S F A = 7 ∧ nb 7 b true S F A = 7 := by decide +kernel
  obtain ⟨k0, k1, k2, k3, k4, k5, k6, k7⟩ := key b (bits .and .u8 fl 2 != 0) (bits .and .u8 fl 1 != 0) (bits .and .u8 fl 16 != 0)
  have : s = 0 ∨ s = 1 ∨ s = 2 ∨ s = 3 ∨ s = 4 ∨ s = 5 ∨ s = 6 ∨ s = 7 := by omega
  rcases this with rfl | rfl | rfl | rfl | rfl | rfl | rfl | rfl
  · exact .inr ⟨by omega, k0⟩
  · exact .inl ⟨by omega, k1⟩
  · exact .inl ⟨by omega, k2⟩
  · exact .inl ⟨by omega, k3⟩
  · exact .inl ⟨by omega, k4⟩
  · exact .inl ⟨by omega, k5⟩
  · exact .inl ⟨by omega, k6⟩
  · exact .inl ⟨by omega, k7⟩

set_option maxHeartbeats 1000000 in
theorem walk_TrackResets (w : World) (s : Int) (hs : -9223372036854775808 ≤ s ∧ s ≤ 9223372036854775807) (b : Bool) (fl : Int) (hfl : 0 ≤ fl ∧ fl ≤ 255) :
    Calls Try.prog 7 #[.int .i64 s, .bool b, .int .u8 fl] w fun e w' => e = .returned (.bool true) ∧ Below w.heap.size w w' := by
  have ho : (bits .and .u8 (bits .or .u8 fl 4) 4 != 0) = true ∧ 0 ≤ bits .or .u8 fl 4 ∧ bits .or .u8 fl 4 ≤ 255 := by have := bits_or4 fl.toNat (by omega); rwa [Int.toNat_of_nonneg hfl.1] at this
  have hr := nx_reset (s := s) (b := b) ho.2 ho.1
  clear ho
  go_enter Try.func7, Try.ntmps7
  go_wp2_with fail
  refine (next_any s b _ _).mono ?_
  generalize nx s b (bits .or .u8 fl 4) = n at *
  rintro e w1 ⟨rfl, hb1⟩
  rcases hr with ⟨⟨ha, hb⟩, rfl⟩ | ⟨ha | ha, rfl⟩
  all_goals
    go_wp2_with fail
    refine (live7_any _).mono ?_
    rintro e w3 ⟨rfl, hb3⟩
    go_wp2_with fail
    go_ret
    refine ⟨?_, hb1.trans (hb3.mono hb1.size)⟩
    simp <;> omega
end Go.Proofs.Ytbkggohjbigbgaa
