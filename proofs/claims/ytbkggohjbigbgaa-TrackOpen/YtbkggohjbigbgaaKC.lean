/- Layer 7: the document's side; how long, which are live. -/
import Derived.Test.YtbkggohjbigbgaaKB
namespace Go.Proofs.Ytbkggohjbigbgaa
open Go.RowKit Go.Shelf
set_option maxRecDepth 100000
set_option linter.unusedVariables false
set_option linter.unusedSimpArgs false

theorem bits7 : ∀ n : Nat, n < 256 → (bits .and .u8 n 7 == 3) = ((bits .and .u8 n 2 != 0) && (bits .and .u8 n 1 != 0) && !(bits .and .u8 n 4 != 0)) := by decide +kernel
theorem bits23 : ∀ n : Nat, n < 256 → (bits .and .u8 n 23 == 2) = ((bits .and .u8 n 2 != 0) && !(bits .and .u8 n 1 != 0) && !(bits .and .u8 n 4 != 0) && !(bits .and .u8 n 16 != 0)) := by decide +kernel
theorem bits21 : ∀ n : Nat, n < 256 → (bits .and .u8 n 21 == 0) = (!(bits .and .u8 n 1 != 0) && !(bits .and .u8 n 4 != 0) && !(bits .and .u8 n 16 != 0)) := by decide +kernel
theorem bgn_eq {fl : Int} (hfl : 0 ≤ fl ∧ fl ≤ 255) : bgn fl = ((bits .and .u8 fl 2 != 0) && !(bits .and .u8 fl 1 != 0) && !(bits .and .u8 fl 4 != 0) && !(bits .and .u8 fl 16 != 0)) := (by have := bits23 fl.toNat (by omega); rwa [Int.toNat_of_nonneg hfl.1] at this)

def nb (s : Int) (b R S F A : Bool) : Int := if S && F && !R then 0 else (row7 s)[(if R then 1 else if S then (if b then 3 else if S && !F && !R && !A then 2 else 4) else if F then 5 else if A then 6 else 0 : Int).toNat]?.getD 0
theorem nx_eq {s : Int} {b : Bool} {fl : Int} (hfl : 0 ≤ fl ∧ fl ≤ 255) : nx s b fl = nb s b (bits .and .u8 fl 4 != 0) (bits .and .u8 fl 2 != 0) (bits .and .u8 fl 1 != 0) (bits .and .u8 fl 16 != 0) := by
  unfold nx nb nws nwsS fb
  rw [bgn_eq hfl, (show (bits .and .u8 fl 7 == 3) = ((bits .and .u8 fl 2 != 0) && (bits .and .u8 fl 1 != 0) && !(bits .and .u8 fl 4 != 0)) from by have := bits7 fl.toNat (by omega); rwa [Int.toNat_of_nonneg hfl.1] at this)]
theorem row7_other {s : Int} (h : s < 0 ∨ 7 < s) : row7 s = [0, 0, 0, 0, 0, 0, 0] := by
  unfold row7
  simp only [show ¬ s = 0 from by omega, show ¬ s = 1 from by omega, show ¬ s = 2 from by omega, show ¬ s = 3 from by omega, show ¬ s = 4 from by omega, show ¬ s = 5 from by omega, show ¬ s = 6 from by omega, show ¬ s = 7 from by omega, if_false]
theorem nx_other {s : Int} {b : Bool} {fl : Int} (hfl : 0 ≤ fl ∧ fl ≤ 255) (h : s < 0 ∨ 7 < s) : nx s b fl = 0 := by
  unfold nx
  rw [row7_other h]
  rcases nws_bd b fl with h | h | h | h | h | h | h <;> rw [h] <;> split <;> rfl

theorem rbegins_any (fl : Int) (w : World) (hfl : 0 ≤ fl ∧ fl ≤ 255) : Calls Try.prog 13 #[.int .u8 fl] w fun e w' => e = .returned (.bool (bgn fl)) ∧ w' = w := by
  have h1 := bgn_eq hfl
  have h2 : (bits .and .u8 fl 21 == 0) = (!(bits .and .u8 fl 1 != 0) && !(bits .and .u8 fl 4 != 0) && !(bits .and .u8 fl 16 != 0)) := (by have := bits21 fl.toNat (by omega); rwa [Int.toNat_of_nonneg hfl.1] at this)
  have H : bgn fl = ((bits .and .u8 fl 2 != 0) && (bits .and .u8 fl 21 == 0)) := by rw [h1, h2, Bool.and_assoc, Bool.and_assoc, Bool.and_assoc]
  clear h1 h2
  rw [H]
  clear H
  rcases Bool.eq_false_or_eq_true (bits .and .u8 fl 2 != 0) with h | h <;>
  · rw [h]
    go_enter Try.func13, Try.ntmps13
    go_wp2_with fail
    go_ret
    exact ⟨by simp, rfl⟩

set_option maxHeartbeats 8000000 in
theorem rnext_any (s : Int) (b : Bool) (fl : Int) (w : World) (hfl : 0 ≤ fl ∧ fl ≤ 255) : Calls Try.prog 10 #[.int .i64 s, .bool b, .int .u8 fl] w fun e w' => e = .returned (.tuple #[.int .i64 (nx s b fl), .bool (nx s b fl != 0)]) ∧ w' = w := by
  by_cases e0 : s = 0
  · subst e0
    rcases Bool.eq_false_or_eq_true (bits .and .u8 fl 2 != 0) with hS | hS
    · skip
      rcases Bool.eq_false_or_eq_true (bits .and .u8 fl 1 != 0) with hF | hF
      · skip
        rcases Bool.eq_false_or_eq_true (bits .and .u8 fl 4 != 0) with hR | hR
        · skip
          cases b
          · skip
            rcases Bool.eq_false_or_eq_true (bgn fl) with hB | hB
            · skip
              have key : ∀ b R S F A : Bool, R = true → S = true → F = true → b = false → (S && !F && !R && !A) = true → nb 0 b R S F A = 1 := by decide +kernel
              have hn : nx 0 false fl = 1 := by rw [nx_eq hfl]; exact key _ _ _ _ _ hR hS hF rfl (by rw [← bgn_eq hfl]; exact hB)
              clear key
              rw [hn]
              clear hn
              go_enter Try.func10, Try.ntmps10
              go_wp2_with fail
              refine (rbegins_any fl _ hfl).mono ?_
              rintro e w1 ⟨rfl, rfl⟩
              rw [hB]
              go_wp2_with fail
              exact bodyPost_ret (v := .tuple #[.int .i64 1, .bool true]) (by simp [results, Try.results10, go_sem]) rfl ⟨rfl, rfl⟩
            · skip
              have key : ∀ b R S F A : Bool, R = true → S = true → F = true → b = false → (S && !F && !R && !A) = false → nb 0 b R S F A = 0 := by decide +kernel
              have hn : nx 0 false fl = 0 := by rw [nx_eq hfl]; exact key _ _ _ _ _ hR hS hF rfl (by rw [← bgn_eq hfl]; exact hB)
              clear key
              rw [hn]
              clear hn
              go_enter Try.func10, Try.ntmps10
              go_wp2_with fail
              refine (rbegins_any fl _ hfl).mono ?_
              rintro e w1 ⟨rfl, rfl⟩
              rw [hB]
              go_wp2_with fail
              exact bodyPost_ret (v := .tuple #[.int .i64 0, .bool false]) (by simp [results, Try.results10, go_sem]) rfl ⟨rfl, rfl⟩
          · skip
            have key : ∀ b R S F A : Bool, R = true → S = true → F = true → b = true → nb 0 b R S F A = 0 := by decide +kernel
            have hn : nx 0 true fl = 0 := by rw [nx_eq hfl]; exact key _ _ _ _ _ hR hS hF rfl
            clear key
            rw [hn]
            clear hn
            go_enter Try.func10, Try.ntmps10
            go_wp2_with fail
            exact bodyPost_ret (v := .tuple #[.int .i64 0, .bool false]) (by simp [results, Try.results10, go_sem]) rfl ⟨rfl, rfl⟩
        · skip
          have key : ∀ b R S F A : Bool, R = false → S = true → F = true → nb 0 b R S F A = 0 := by decide +kernel
          have hn : nx 0 b fl = 0 := by rw [nx_eq hfl]; exact key _ _ _ _ _ hR hS hF
          clear key
          rw [hn]
          clear hn
          go_enter Try.func10, Try.ntmps10
          go_wp2_with fail
          exact bodyPost_ret (v := .tuple #[.int .i64 0, .bool false]) (by simp [results, Try.results10, go_sem]) rfl ⟨rfl, rfl⟩
      · skip
        cases b
        · skip
          rcases Bool.eq_false_or_eq_true (bgn fl) with hB | hB
          · skip
            have key : ∀ b R S F A : Bool, S = true → F = false → b = false → (S && !F && !R && !A) = true → nb 0 b R S F A = 1 := by decide +kernel
            have hn : nx 0 false fl = 1 := by rw [nx_eq hfl]; exact key _ _ _ _ _ hS hF rfl (by rw [← bgn_eq hfl]; exact hB)
            clear key
            rw [hn]
            clear hn
            go_enter Try.func10, Try.ntmps10
            go_wp2_with fail
            refine (rbegins_any fl _ hfl).mono ?_
            rintro e w1 ⟨rfl, rfl⟩
            rw [hB]
            go_wp2_with fail
            exact bodyPost_ret (v := .tuple #[.int .i64 1, .bool true]) (by simp [results, Try.results10, go_sem]) rfl ⟨rfl, rfl⟩
          · skip
            have key : ∀ b R S F A : Bool, S = true → F = false → b = false → (S && !F && !R && !A) = false → nb 0 b R S F A = 0 := by decide +kernel
            have hn : nx 0 false fl = 0 := by rw [nx_eq hfl]; exact key _ _ _ _ _ hS hF rfl (by rw [← bgn_eq hfl]; exact hB)
            clear key
            rw [hn]
            clear hn
            go_enter Try.func10, Try.ntmps10
            go_wp2_with fail
            refine (rbegins_any fl _ hfl).mono ?_
            rintro e w1 ⟨rfl, rfl⟩
            rw [hB]
            go_wp2_with fail
            exact bodyPost_ret (v := .tuple #[.int .i64 0, .bool false]) (by simp [results, Try.results10, go_sem]) rfl ⟨rfl, rfl⟩
        · skip
          have key : ∀ b R S F A : Bool, S = true → F = false → b = true → nb 0 b R S F A = 0 := by decide +kernel
          have hn : nx 0 true fl = 0 := by rw [nx_eq hfl]; exact key _ _ _ _ _ hS hF rfl
          clear key
          rw [hn]
          clear hn
          go_enter Try.func10, Try.ntmps10
          go_wp2_with fail
          exact bodyPost_ret (v := .tuple #[.int .i64 0, .bool false]) (by simp [results, Try.results10, go_sem]) rfl ⟨rfl, rfl⟩
    · skip
      cases b
      · skip
        rcases Bool.eq_false_or_eq_true (bgn fl) with hB | hB
        · skip
          have key : ∀ b R S F A : Bool, S = false → b = false → (S && !F && !R && !A) = true → nb 0 b R S F A = 1 := by decide +kernel
          have hn : nx 0 false fl = 1 := by rw [nx_eq hfl]; exact key _ _ _ _ _ hS rfl (by rw [← bgn_eq hfl]; exact hB)
          clear key
          rw [hn]
          clear hn
          go_enter Try.func10, Try.ntmps10
          go_wp2_with fail
          refine (rbegins_any fl _ hfl).mono ?_
          rintro e w1 ⟨rfl, rfl⟩
          rw [hB]
          go_wp2_with fail
          exact bodyPost_ret (v := .tuple #[.int .i64 1, .bool true]) (by simp [results, Try.results10, go_sem]) rfl ⟨rfl, rfl⟩
        · skip
          have key : ∀ b R S F A : Bool, S = false → b = false → (S && !F && !R && !A) = false → nb 0 b R S F A = 0 := by decide +kernel
          have hn : nx 0 false fl = 0 := by rw [nx_eq hfl]; exact key _ _ _ _ _ hS rfl (by rw [← bgn_eq hfl]; exact hB)
          clear key
          rw [hn]
          clear hn
          go_enter Try.func10, Try.ntmps10
          go_wp2_with fail
          refine (rbegins_any fl _ hfl).mono ?_
          rintro e w1 ⟨rfl, rfl⟩
          rw [hB]
          go_wp2_with fail
          exact bodyPost_ret (v := .tuple #[.int .i64 0, .bool false]) (by simp [results, Try.results10, go_sem]) rfl ⟨rfl, rfl⟩
      · skip
        have key : ∀ b R S F A : Bool, S = false → b = true → nb 0 b R S F A = 0 := by decide +kernel
        have hn : nx 0 true fl = 0 := by rw [nx_eq hfl]; exact key _ _ _ _ _ hS rfl
        clear key
        rw [hn]
        clear hn
        go_enter Try.func10, Try.ntmps10
        go_wp2_with fail
        exact bodyPost_ret (v := .tuple #[.int .i64 0, .bool false]) (by simp [results, Try.results10, go_sem]) rfl ⟨rfl, rfl⟩
  by_cases e1 : s = 1
  · subst e1
    clear e0
    rcases Bool.eq_false_or_eq_true (bits .and .u8 fl 2 != 0) with hS | hS
    · skip
      rcases Bool.eq_false_or_eq_true (bits .and .u8 fl 1 != 0) with hF | hF
      · skip
        rcases Bool.eq_false_or_eq_true (bits .and .u8 fl 4 != 0) with hR | hR
        · skip
          have key : ∀ b R S F A : Bool, R = true → S = true → F = true → nb 1 b R S F A = 7 := by decide +kernel
          have hn : nx 1 b fl = 7 := by rw [nx_eq hfl]; exact key _ _ _ _ _ hR hS hF
          clear key
          rw [hn]
          clear hn
          go_enter Try.func10, Try.ntmps10
          go_wp2_with fail
          exact bodyPost_ret (v := .tuple #[.int .i64 7, .bool true]) (by simp [results, Try.results10, go_sem]) rfl ⟨rfl, rfl⟩
        · skip
          have key : ∀ b R S F A : Bool, R = false → S = true → F = true → nb 1 b R S F A = 0 := by decide +kernel
          have hn : nx 1 b fl = 0 := by rw [nx_eq hfl]; exact key _ _ _ _ _ hR hS hF
          clear key
          rw [hn]
          clear hn
          go_enter Try.func10, Try.ntmps10
          go_wp2_with fail
          exact bodyPost_ret (v := .tuple #[.int .i64 0, .bool false]) (by simp [results, Try.results10, go_sem]) rfl ⟨rfl, rfl⟩
      · skip
        rcases Bool.eq_false_or_eq_true (bits .and .u8 fl 4 != 0) with hR | hR
        · skip
          have key : ∀ b R S F A : Bool, R = true → S = true → F = false → nb 1 b R S F A = 7 := by decide +kernel
          have hn : nx 1 b fl = 7 := by rw [nx_eq hfl]; exact key _ _ _ _ _ hR hS hF
          clear key
          rw [hn]
          clear hn
          go_enter Try.func10, Try.ntmps10
          go_wp2_with fail
          exact bodyPost_ret (v := .tuple #[.int .i64 7, .bool true]) (by simp [results, Try.results10, go_sem]) rfl ⟨rfl, rfl⟩
        · skip
          cases b
          · skip
            rcases Bool.eq_false_or_eq_true (bgn fl) with hB | hB
            · skip
              have key : ∀ b R S F A : Bool, R = false → S = true → F = false → b = false → (S && !F && !R && !A) = true → nb 1 b R S F A = 1 := by decide +kernel
              have hn : nx 1 false fl = 1 := by rw [nx_eq hfl]; exact key _ _ _ _ _ hR hS hF rfl (by rw [← bgn_eq hfl]; exact hB)
              clear key
              rw [hn]
              clear hn
              go_enter Try.func10, Try.ntmps10
              go_wp2_with fail
              refine (rbegins_any fl _ hfl).mono ?_
              rintro e w1 ⟨rfl, rfl⟩
              rw [hB]
              go_wp2_with fail
              exact bodyPost_ret (v := .tuple #[.int .i64 1, .bool true]) (by simp [results, Try.results10, go_sem]) rfl ⟨rfl, rfl⟩
            · skip
              have key : ∀ b R S F A : Bool, R = false → S = true → F = false → b = false → (S && !F && !R && !A) = false → nb 1 b R S F A = 0 := by decide +kernel
              have hn : nx 1 false fl = 0 := by rw [nx_eq hfl]; exact key _ _ _ _ _ hR hS hF rfl (by rw [← bgn_eq hfl]; exact hB)
              clear key
              rw [hn]
              clear hn
              go_enter Try.func10, Try.ntmps10
              go_wp2_with fail
              refine (rbegins_any fl _ hfl).mono ?_
              rintro e w1 ⟨rfl, rfl⟩
              rw [hB]
              go_wp2_with fail
              exact bodyPost_ret (v := .tuple #[.int .i64 0, .bool false]) (by simp [results, Try.results10, go_sem]) rfl ⟨rfl, rfl⟩
          · skip
            have key : ∀ b R S F A : Bool, R = false → S = true → F = false → b = true → nb 1 b R S F A = 2 := by decide +kernel
            have hn : nx 1 true fl = 2 := by rw [nx_eq hfl]; exact key _ _ _ _ _ hR hS hF rfl
            clear key
            rw [hn]
            clear hn
            go_enter Try.func10, Try.ntmps10
            go_wp2_with fail
            exact bodyPost_ret (v := .tuple #[.int .i64 2, .bool true]) (by simp [results, Try.results10, go_sem]) rfl ⟨rfl, rfl⟩
    · skip
      rcases Bool.eq_false_or_eq_true (bits .and .u8 fl 4 != 0) with hR | hR
      · skip
        have key : ∀ b R S F A : Bool, R = true → S = false → nb 1 b R S F A = 7 := by decide +kernel
        have hn : nx 1 b fl = 7 := by rw [nx_eq hfl]; exact key _ _ _ _ _ hR hS
        clear key
        rw [hn]
        clear hn
        go_enter Try.func10, Try.ntmps10
        go_wp2_with fail
        exact bodyPost_ret (v := .tuple #[.int .i64 7, .bool true]) (by simp [results, Try.results10, go_sem]) rfl ⟨rfl, rfl⟩
      · skip
        rcases Bool.eq_false_or_eq_true (bits .and .u8 fl 1 != 0) with hF | hF
        · skip
          have key : ∀ b R S F A : Bool, R = false → S = false → F = true → nb 1 b R S F A = 0 := by decide +kernel
          have hn : nx 1 b fl = 0 := by rw [nx_eq hfl]; exact key _ _ _ _ _ hR hS hF
          clear key
          rw [hn]
          clear hn
          go_enter Try.func10, Try.ntmps10
          go_wp2_with fail
          exact bodyPost_ret (v := .tuple #[.int .i64 0, .bool false]) (by simp [results, Try.results10, go_sem]) rfl ⟨rfl, rfl⟩
        · skip
          rcases Bool.eq_false_or_eq_true (bits .and .u8 fl 16 != 0) with hA | hA
          · skip
            have key : ∀ b R S F A : Bool, R = false → S = false → F = false → A = true → nb 1 b R S F A = 0 := by decide +kernel
            have hn : nx 1 b fl = 0 := by rw [nx_eq hfl]; exact key _ _ _ _ _ hR hS hF hA
            clear key
            rw [hn]
            clear hn
            go_enter Try.func10, Try.ntmps10
            go_wp2_with fail
            exact bodyPost_ret (v := .tuple #[.int .i64 0, .bool false]) (by simp [results, Try.results10, go_sem]) rfl ⟨rfl, rfl⟩
          · skip
            have key : ∀ b R S F A : Bool, R = false → S = false → F = false → A = false → nb 1 b R S F A = 0 := by decide +kernel
            have hn : nx 1 b fl = 0 := by rw [nx_eq hfl]; exact key _ _ _ _ _ hR hS hF hA
            clear key
            rw [hn]
            clear hn
            go_enter Try.func10, Try.ntmps10
            go_wp2_with fail
            exact bodyPost_ret (v := .tuple #[.int .i64 0, .bool false]) (by simp [results, Try.results10, go_sem]) rfl ⟨rfl, rfl⟩
  by_cases e2 : s = 2
  · subst e2
    clear e0 e1
    rcases Bool.eq_false_or_eq_true (bits .and .u8 fl 2 != 0) with hS | hS
    · skip
      rcases Bool.eq_false_or_eq_true (bits .and .u8 fl 1 != 0) with hF | hF
      · skip
        rcases Bool.eq_false_or_eq_true (bits .and .u8 fl 4 != 0) with hR | hR
        · skip
          have key : ∀ b R S F A : Bool, R = true → S = true → F = true → nb 2 b R S F A = 7 := by decide +kernel
          have hn : nx 2 b fl = 7 := by rw [nx_eq hfl]; exact key _ _ _ _ _ hR hS hF
          clear key
          rw [hn]
          clear hn
          go_enter Try.func10, Try.ntmps10
          go_wp2_with fail
          exact bodyPost_ret (v := .tuple #[.int .i64 7, .bool true]) (by simp [results, Try.results10, go_sem]) rfl ⟨rfl, rfl⟩
        · skip
          have key : ∀ b R S F A : Bool, R = false → S = true → F = true → nb 2 b R S F A = 0 := by decide +kernel
          have hn : nx 2 b fl = 0 := by rw [nx_eq hfl]; exact key _ _ _ _ _ hR hS hF
          clear key
          rw [hn]
          clear hn
          go_enter Try.func10, Try.ntmps10
          go_wp2_with fail
          exact bodyPost_ret (v := .tuple #[.int .i64 0, .bool false]) (by simp [results, Try.results10, go_sem]) rfl ⟨rfl, rfl⟩
      · skip
        rcases Bool.eq_false_or_eq_true (bits .and .u8 fl 4 != 0) with hR | hR
        · skip
          have key : ∀ b R S F A : Bool, R = true → S = true → F = false → nb 2 b R S F A = 7 := by decide +kernel
          have hn : nx 2 b fl = 7 := by rw [nx_eq hfl]; exact key _ _ _ _ _ hR hS hF
          clear key
          rw [hn]
          clear hn
          go_enter Try.func10, Try.ntmps10
          go_wp2_with fail
          exact bodyPost_ret (v := .tuple #[.int .i64 7, .bool true]) (by simp [results, Try.results10, go_sem]) rfl ⟨rfl, rfl⟩
        · skip
          have key : ∀ b R S F A : Bool, R = false → S = true → F = false → nb 2 b R S F A = 2 := by decide +kernel
          have hn : nx 2 b fl = 2 := by rw [nx_eq hfl]; exact key _ _ _ _ _ hR hS hF
          clear key
          rw [hn]
          clear hn
          go_enter Try.func10, Try.ntmps10
          go_wp2_with fail
          exact bodyPost_ret (v := .tuple #[.int .i64 2, .bool true]) (by simp [results, Try.results10, go_sem]) rfl ⟨rfl, rfl⟩
    · skip
      rcases Bool.eq_false_or_eq_true (bits .and .u8 fl 4 != 0) with hR | hR
      · skip
        have key : ∀ b R S F A : Bool, R = true → S = false → nb 2 b R S F A = 7 := by decide +kernel
        have hn : nx 2 b fl = 7 := by rw [nx_eq hfl]; exact key _ _ _ _ _ hR hS
        clear key
        rw [hn]
        clear hn
        go_enter Try.func10, Try.ntmps10
        go_wp2_with fail
        exact bodyPost_ret (v := .tuple #[.int .i64 7, .bool true]) (by simp [results, Try.results10, go_sem]) rfl ⟨rfl, rfl⟩
      · skip
        rcases Bool.eq_false_or_eq_true (bits .and .u8 fl 1 != 0) with hF | hF
        · skip
          have key : ∀ b R S F A : Bool, R = false → S = false → F = true → nb 2 b R S F A = 4 := by decide +kernel
          have hn : nx 2 b fl = 4 := by rw [nx_eq hfl]; exact key _ _ _ _ _ hR hS hF
          clear key
          rw [hn]
          clear hn
          go_enter Try.func10, Try.ntmps10
          go_wp2_with fail
          exact bodyPost_ret (v := .tuple #[.int .i64 4, .bool true]) (by simp [results, Try.results10, go_sem]) rfl ⟨rfl, rfl⟩
        · skip
          rcases Bool.eq_false_or_eq_true (bits .and .u8 fl 16 != 0) with hA | hA
          · skip
            have key : ∀ b R S F A : Bool, R = false → S = false → F = false → A = true → nb 2 b R S F A = 3 := by decide +kernel
            have hn : nx 2 b fl = 3 := by rw [nx_eq hfl]; exact key _ _ _ _ _ hR hS hF hA
            clear key
            rw [hn]
            clear hn
            go_enter Try.func10, Try.ntmps10
            go_wp2_with fail
            exact bodyPost_ret (v := .tuple #[.int .i64 3, .bool true]) (by simp [results, Try.results10, go_sem]) rfl ⟨rfl, rfl⟩
          · skip
            have key : ∀ b R S F A : Bool, R = false → S = false → F = false → A = false → nb 2 b R S F A = 0 := by decide +kernel
            have hn : nx 2 b fl = 0 := by rw [nx_eq hfl]; exact key _ _ _ _ _ hR hS hF hA
            clear key
            rw [hn]
            clear hn
            go_enter Try.func10, Try.ntmps10
            go_wp2_with fail
            exact bodyPost_ret (v := .tuple #[.int .i64 0, .bool false]) (by simp [results, Try.results10, go_sem]) rfl ⟨rfl, rfl⟩
  by_cases e3 : s = 3
  · subst e3
    clear e0 e1 e2
    rcases Bool.eq_false_or_eq_true (bits .and .u8 fl 2 != 0) with hS | hS
    · skip
      rcases Bool.eq_false_or_eq_true (bits .and .u8 fl 1 != 0) with hF | hF
      · skip
        rcases Bool.eq_false_or_eq_true (bits .and .u8 fl 4 != 0) with hR | hR
        · skip
          have key : ∀ b R S F A : Bool, R = true → S = true → F = true → nb 3 b R S F A = 7 := by decide +kernel
          have hn : nx 3 b fl = 7 := by rw [nx_eq hfl]; exact key _ _ _ _ _ hR hS hF
          clear key
          rw [hn]
          clear hn
          go_enter Try.func10, Try.ntmps10
          go_wp2_with fail
          exact bodyPost_ret (v := .tuple #[.int .i64 7, .bool true]) (by simp [results, Try.results10, go_sem]) rfl ⟨rfl, rfl⟩
        · skip
          have key : ∀ b R S F A : Bool, R = false → S = true → F = true → nb 3 b R S F A = 0 := by decide +kernel
          have hn : nx 3 b fl = 0 := by rw [nx_eq hfl]; exact key _ _ _ _ _ hR hS hF
          clear key
          rw [hn]
          clear hn
          go_enter Try.func10, Try.ntmps10
          go_wp2_with fail
          exact bodyPost_ret (v := .tuple #[.int .i64 0, .bool false]) (by simp [results, Try.results10, go_sem]) rfl ⟨rfl, rfl⟩
      · skip
        rcases Bool.eq_false_or_eq_true (bits .and .u8 fl 4 != 0) with hR | hR
        · skip
          have key : ∀ b R S F A : Bool, R = true → S = true → F = false → nb 3 b R S F A = 7 := by decide +kernel
          have hn : nx 3 b fl = 7 := by rw [nx_eq hfl]; exact key _ _ _ _ _ hR hS hF
          clear key
          rw [hn]
          clear hn
          go_enter Try.func10, Try.ntmps10
          go_wp2_with fail
          exact bodyPost_ret (v := .tuple #[.int .i64 7, .bool true]) (by simp [results, Try.results10, go_sem]) rfl ⟨rfl, rfl⟩
        · skip
          have key : ∀ b R S F A : Bool, R = false → S = true → F = false → nb 3 b R S F A = 0 := by decide +kernel
          have hn : nx 3 b fl = 0 := by rw [nx_eq hfl]; exact key _ _ _ _ _ hR hS hF
          clear key
          rw [hn]
          clear hn
          go_enter Try.func10, Try.ntmps10
          go_wp2_with fail
          exact bodyPost_ret (v := .tuple #[.int .i64 0, .bool false]) (by simp [results, Try.results10, go_sem]) rfl ⟨rfl, rfl⟩
    · skip
      rcases Bool.eq_false_or_eq_true (bits .and .u8 fl 4 != 0) with hR | hR
      · skip
        have key : ∀ b R S F A : Bool, R = true → S = false → nb 3 b R S F A = 7 := by decide +kernel
        have hn : nx 3 b fl = 7 := by rw [nx_eq hfl]; exact key _ _ _ _ _ hR hS
        clear key
        rw [hn]
        clear hn
        go_enter Try.func10, Try.ntmps10
        go_wp2_with fail
        exact bodyPost_ret (v := .tuple #[.int .i64 7, .bool true]) (by simp [results, Try.results10, go_sem]) rfl ⟨rfl, rfl⟩
      · skip
        rcases Bool.eq_false_or_eq_true (bits .and .u8 fl 1 != 0) with hF | hF
        · skip
          have key : ∀ b R S F A : Bool, R = false → S = false → F = true → nb 3 b R S F A = 4 := by decide +kernel
          have hn : nx 3 b fl = 4 := by rw [nx_eq hfl]; exact key _ _ _ _ _ hR hS hF
          clear key
          rw [hn]
          clear hn
          go_enter Try.func10, Try.ntmps10
          go_wp2_with fail
          exact bodyPost_ret (v := .tuple #[.int .i64 4, .bool true]) (by simp [results, Try.results10, go_sem]) rfl ⟨rfl, rfl⟩
        · skip
          rcases Bool.eq_false_or_eq_true (bits .and .u8 fl 16 != 0) with hA | hA
          · skip
            have key : ∀ b R S F A : Bool, R = false → S = false → F = false → A = true → nb 3 b R S F A = 3 := by decide +kernel
            have hn : nx 3 b fl = 3 := by rw [nx_eq hfl]; exact key _ _ _ _ _ hR hS hF hA
            clear key
            rw [hn]
            clear hn
            go_enter Try.func10, Try.ntmps10
            go_wp2_with fail
            exact bodyPost_ret (v := .tuple #[.int .i64 3, .bool true]) (by simp [results, Try.results10, go_sem]) rfl ⟨rfl, rfl⟩
          · skip
            have key : ∀ b R S F A : Bool, R = false → S = false → F = false → A = false → nb 3 b R S F A = 0 := by decide +kernel
            have hn : nx 3 b fl = 0 := by rw [nx_eq hfl]; exact key _ _ _ _ _ hR hS hF hA
            clear key
            rw [hn]
            clear hn
            go_enter Try.func10, Try.ntmps10
            go_wp2_with fail
            exact bodyPost_ret (v := .tuple #[.int .i64 0, .bool false]) (by simp [results, Try.results10, go_sem]) rfl ⟨rfl, rfl⟩
  by_cases e4 : s = 4
  · subst e4
    clear e0 e1 e2 e3
    rcases Bool.eq_false_or_eq_true (bits .and .u8 fl 2 != 0) with hS | hS
    · skip
      rcases Bool.eq_false_or_eq_true (bits .and .u8 fl 1 != 0) with hF | hF
      · skip
        rcases Bool.eq_false_or_eq_true (bits .and .u8 fl 4 != 0) with hR | hR
        · skip
          have key : ∀ b R S F A : Bool, R = true → S = true → F = true → nb 4 b R S F A = 7 := by decide +kernel
          have hn : nx 4 b fl = 7 := by rw [nx_eq hfl]; exact key _ _ _ _ _ hR hS hF
          clear key
          rw [hn]
          clear hn
          go_enter Try.func10, Try.ntmps10
          go_wp2_with fail
          exact bodyPost_ret (v := .tuple #[.int .i64 7, .bool true]) (by simp [results, Try.results10, go_sem]) rfl ⟨rfl, rfl⟩
        · skip
          have key : ∀ b R S F A : Bool, R = false → S = true → F = true → nb 4 b R S F A = 0 := by decide +kernel
          have hn : nx 4 b fl = 0 := by rw [nx_eq hfl]; exact key _ _ _ _ _ hR hS hF
          clear key
          rw [hn]
          clear hn
          go_enter Try.func10, Try.ntmps10
          go_wp2_with fail
          exact bodyPost_ret (v := .tuple #[.int .i64 0, .bool false]) (by simp [results, Try.results10, go_sem]) rfl ⟨rfl, rfl⟩
      · skip
        rcases Bool.eq_false_or_eq_true (bits .and .u8 fl 4 != 0) with hR | hR
        · skip
          have key : ∀ b R S F A : Bool, R = true → S = true → F = false → nb 4 b R S F A = 7 := by decide +kernel
          have hn : nx 4 b fl = 7 := by rw [nx_eq hfl]; exact key _ _ _ _ _ hR hS hF
          clear key
          rw [hn]
          clear hn
          go_enter Try.func10, Try.ntmps10
          go_wp2_with fail
          exact bodyPost_ret (v := .tuple #[.int .i64 7, .bool true]) (by simp [results, Try.results10, go_sem]) rfl ⟨rfl, rfl⟩
        · skip
          have key : ∀ b R S F A : Bool, R = false → S = true → F = false → nb 4 b R S F A = 0 := by decide +kernel
          have hn : nx 4 b fl = 0 := by rw [nx_eq hfl]; exact key _ _ _ _ _ hR hS hF
          clear key
          rw [hn]
          clear hn
          go_enter Try.func10, Try.ntmps10
          go_wp2_with fail
          exact bodyPost_ret (v := .tuple #[.int .i64 0, .bool false]) (by simp [results, Try.results10, go_sem]) rfl ⟨rfl, rfl⟩
    · skip
      rcases Bool.eq_false_or_eq_true (bits .and .u8 fl 4 != 0) with hR | hR
      · skip
        have key : ∀ b R S F A : Bool, R = true → S = false → nb 4 b R S F A = 7 := by decide +kernel
        have hn : nx 4 b fl = 7 := by rw [nx_eq hfl]; exact key _ _ _ _ _ hR hS
        clear key
        rw [hn]
        clear hn
        go_enter Try.func10, Try.ntmps10
        go_wp2_with fail
        exact bodyPost_ret (v := .tuple #[.int .i64 7, .bool true]) (by simp [results, Try.results10, go_sem]) rfl ⟨rfl, rfl⟩
      · skip
        rcases Bool.eq_false_or_eq_true (bits .and .u8 fl 1 != 0) with hF | hF
        · skip
          have key : ∀ b R S F A : Bool, R = false → S = false → F = true → nb 4 b R S F A = 5 := by decide +kernel
          have hn : nx 4 b fl = 5 := by rw [nx_eq hfl]; exact key _ _ _ _ _ hR hS hF
          clear key
          rw [hn]
          clear hn
          go_enter Try.func10, Try.ntmps10
          go_wp2_with fail
          exact bodyPost_ret (v := .tuple #[.int .i64 5, .bool true]) (by simp [results, Try.results10, go_sem]) rfl ⟨rfl, rfl⟩
        · skip
          rcases Bool.eq_false_or_eq_true (bits .and .u8 fl 16 != 0) with hA | hA
          · skip
            have key : ∀ b R S F A : Bool, R = false → S = false → F = false → A = true → nb 4 b R S F A = 4 := by decide +kernel
            have hn : nx 4 b fl = 4 := by rw [nx_eq hfl]; exact key _ _ _ _ _ hR hS hF hA
            clear key
            rw [hn]
            clear hn
            go_enter Try.func10, Try.ntmps10
            go_wp2_with fail
            exact bodyPost_ret (v := .tuple #[.int .i64 4, .bool true]) (by simp [results, Try.results10, go_sem]) rfl ⟨rfl, rfl⟩
          · skip
            have key : ∀ b R S F A : Bool, R = false → S = false → F = false → A = false → nb 4 b R S F A = 0 := by decide +kernel
            have hn : nx 4 b fl = 0 := by rw [nx_eq hfl]; exact key _ _ _ _ _ hR hS hF hA
            clear key
            rw [hn]
            clear hn
            go_enter Try.func10, Try.ntmps10
            go_wp2_with fail
            exact bodyPost_ret (v := .tuple #[.int .i64 0, .bool false]) (by simp [results, Try.results10, go_sem]) rfl ⟨rfl, rfl⟩
  by_cases e5 : s = 5
  · subst e5
    clear e0 e1 e2 e3 e4
    rcases Bool.eq_false_or_eq_true (bits .and .u8 fl 2 != 0) with hS | hS
    · skip
      rcases Bool.eq_false_or_eq_true (bits .and .u8 fl 1 != 0) with hF | hF
      · skip
        rcases Bool.eq_false_or_eq_true (bits .and .u8 fl 4 != 0) with hR | hR
        · skip
          have key : ∀ b R S F A : Bool, R = true → S = true → F = true → nb 5 b R S F A = 7 := by decide +kernel
          have hn : nx 5 b fl = 7 := by rw [nx_eq hfl]; exact key _ _ _ _ _ hR hS hF
          clear key
          rw [hn]
          clear hn
          go_enter Try.func10, Try.ntmps10
          go_wp2_with fail
          exact bodyPost_ret (v := .tuple #[.int .i64 7, .bool true]) (by simp [results, Try.results10, go_sem]) rfl ⟨rfl, rfl⟩
        · skip
          have key : ∀ b R S F A : Bool, R = false → S = true → F = true → nb 5 b R S F A = 0 := by decide +kernel
          have hn : nx 5 b fl = 0 := by rw [nx_eq hfl]; exact key _ _ _ _ _ hR hS hF
          clear key
          rw [hn]
          clear hn
          go_enter Try.func10, Try.ntmps10
          go_wp2_with fail
          exact bodyPost_ret (v := .tuple #[.int .i64 0, .bool false]) (by simp [results, Try.results10, go_sem]) rfl ⟨rfl, rfl⟩
      · skip
        rcases Bool.eq_false_or_eq_true (bits .and .u8 fl 4 != 0) with hR | hR
        · skip
          have key : ∀ b R S F A : Bool, R = true → S = true → F = false → nb 5 b R S F A = 7 := by decide +kernel
          have hn : nx 5 b fl = 7 := by rw [nx_eq hfl]; exact key _ _ _ _ _ hR hS hF
          clear key
          rw [hn]
          clear hn
          go_enter Try.func10, Try.ntmps10
          go_wp2_with fail
          exact bodyPost_ret (v := .tuple #[.int .i64 7, .bool true]) (by simp [results, Try.results10, go_sem]) rfl ⟨rfl, rfl⟩
        · skip
          have key : ∀ b R S F A : Bool, R = false → S = true → F = false → nb 5 b R S F A = 0 := by decide +kernel
          have hn : nx 5 b fl = 0 := by rw [nx_eq hfl]; exact key _ _ _ _ _ hR hS hF
          clear key
          rw [hn]
          clear hn
          go_enter Try.func10, Try.ntmps10
          go_wp2_with fail
          exact bodyPost_ret (v := .tuple #[.int .i64 0, .bool false]) (by simp [results, Try.results10, go_sem]) rfl ⟨rfl, rfl⟩
    · skip
      rcases Bool.eq_false_or_eq_true (bits .and .u8 fl 4 != 0) with hR | hR
      · skip
        have key : ∀ b R S F A : Bool, R = true → S = false → nb 5 b R S F A = 7 := by decide +kernel
        have hn : nx 5 b fl = 7 := by rw [nx_eq hfl]; exact key _ _ _ _ _ hR hS
        clear key
        rw [hn]
        clear hn
        go_enter Try.func10, Try.ntmps10
        go_wp2_with fail
        exact bodyPost_ret (v := .tuple #[.int .i64 7, .bool true]) (by simp [results, Try.results10, go_sem]) rfl ⟨rfl, rfl⟩
      · skip
        rcases Bool.eq_false_or_eq_true (bits .and .u8 fl 1 != 0) with hF | hF
        · skip
          have key : ∀ b R S F A : Bool, R = false → S = false → F = true → nb 5 b R S F A = 5 := by decide +kernel
          have hn : nx 5 b fl = 5 := by rw [nx_eq hfl]; exact key _ _ _ _ _ hR hS hF
          clear key
          rw [hn]
          clear hn
          go_enter Try.func10, Try.ntmps10
          go_wp2_with fail
          exact bodyPost_ret (v := .tuple #[.int .i64 5, .bool true]) (by simp [results, Try.results10, go_sem]) rfl ⟨rfl, rfl⟩
        · skip
          rcases Bool.eq_false_or_eq_true (bits .and .u8 fl 16 != 0) with hA | hA
          · skip
            have key : ∀ b R S F A : Bool, R = false → S = false → F = false → A = true → nb 5 b R S F A = 6 := by decide +kernel
            have hn : nx 5 b fl = 6 := by rw [nx_eq hfl]; exact key _ _ _ _ _ hR hS hF hA
            clear key
            rw [hn]
            clear hn
            go_enter Try.func10, Try.ntmps10
            go_wp2_with fail
            exact bodyPost_ret (v := .tuple #[.int .i64 6, .bool true]) (by simp [results, Try.results10, go_sem]) rfl ⟨rfl, rfl⟩
          · skip
            have key : ∀ b R S F A : Bool, R = false → S = false → F = false → A = false → nb 5 b R S F A = 0 := by decide +kernel
            have hn : nx 5 b fl = 0 := by rw [nx_eq hfl]; exact key _ _ _ _ _ hR hS hF hA
            clear key
            rw [hn]
            clear hn
            go_enter Try.func10, Try.ntmps10
            go_wp2_with fail
            exact bodyPost_ret (v := .tuple #[.int .i64 0, .bool false]) (by simp [results, Try.results10, go_sem]) rfl ⟨rfl, rfl⟩
  by_cases e6 : s = 6
  · subst e6
    clear e0 e1 e2 e3 e4 e5
    rcases Bool.eq_false_or_eq_true (bits .and .u8 fl 2 != 0) with hS | hS
    · skip
      rcases Bool.eq_false_or_eq_true (bits .and .u8 fl 1 != 0) with hF | hF
      · skip
        rcases Bool.eq_false_or_eq_true (bits .and .u8 fl 4 != 0) with hR | hR
        · skip
          have key : ∀ b R S F A : Bool, R = true → S = true → F = true → nb 6 b R S F A = 7 := by decide +kernel
          have hn : nx 6 b fl = 7 := by rw [nx_eq hfl]; exact key _ _ _ _ _ hR hS hF
          clear key
          rw [hn]
          clear hn
          go_enter Try.func10, Try.ntmps10
          go_wp2_with fail
          exact bodyPost_ret (v := .tuple #[.int .i64 7, .bool true]) (by simp [results, Try.results10, go_sem]) rfl ⟨rfl, rfl⟩
        · skip
          have key : ∀ b R S F A : Bool, R = false → S = true → F = true → nb 6 b R S F A = 0 := by decide +kernel
          have hn : nx 6 b fl = 0 := by rw [nx_eq hfl]; exact key _ _ _ _ _ hR hS hF
          clear key
          rw [hn]
          clear hn
          go_enter Try.func10, Try.ntmps10
          go_wp2_with fail
          exact bodyPost_ret (v := .tuple #[.int .i64 0, .bool false]) (by simp [results, Try.results10, go_sem]) rfl ⟨rfl, rfl⟩
      · skip
        rcases Bool.eq_false_or_eq_true (bits .and .u8 fl 4 != 0) with hR | hR
        · skip
          have key : ∀ b R S F A : Bool, R = true → S = true → F = false → nb 6 b R S F A = 7 := by decide +kernel
          have hn : nx 6 b fl = 7 := by rw [nx_eq hfl]; exact key _ _ _ _ _ hR hS hF
          clear key
          rw [hn]
          clear hn
          go_enter Try.func10, Try.ntmps10
          go_wp2_with fail
          exact bodyPost_ret (v := .tuple #[.int .i64 7, .bool true]) (by simp [results, Try.results10, go_sem]) rfl ⟨rfl, rfl⟩
        · skip
          cases b
          · skip
            rcases Bool.eq_false_or_eq_true (bgn fl) with hB | hB
            · skip
              have key : ∀ b R S F A : Bool, R = false → S = true → F = false → b = false → (S && !F && !R && !A) = true → nb 6 b R S F A = 1 := by decide +kernel
              have hn : nx 6 false fl = 1 := by rw [nx_eq hfl]; exact key _ _ _ _ _ hR hS hF rfl (by rw [← bgn_eq hfl]; exact hB)
              clear key
              rw [hn]
              clear hn
              go_enter Try.func10, Try.ntmps10
              go_wp2_with fail
              refine (rbegins_any fl _ hfl).mono ?_
              rintro e w1 ⟨rfl, rfl⟩
              rw [hB]
              go_wp2_with fail
              exact bodyPost_ret (v := .tuple #[.int .i64 1, .bool true]) (by simp [results, Try.results10, go_sem]) rfl ⟨rfl, rfl⟩
            · skip
              have key : ∀ b R S F A : Bool, R = false → S = true → F = false → b = false → (S && !F && !R && !A) = false → nb 6 b R S F A = 0 := by decide +kernel
              have hn : nx 6 false fl = 0 := by rw [nx_eq hfl]; exact key _ _ _ _ _ hR hS hF rfl (by rw [← bgn_eq hfl]; exact hB)
              clear key
              rw [hn]
              clear hn
              go_enter Try.func10, Try.ntmps10
              go_wp2_with fail
              refine (rbegins_any fl _ hfl).mono ?_
              rintro e w1 ⟨rfl, rfl⟩
              rw [hB]
              go_wp2_with fail
              exact bodyPost_ret (v := .tuple #[.int .i64 0, .bool false]) (by simp [results, Try.results10, go_sem]) rfl ⟨rfl, rfl⟩
          · skip
            have key : ∀ b R S F A : Bool, R = false → S = true → F = false → b = true → nb 6 b R S F A = 0 := by decide +kernel
            have hn : nx 6 true fl = 0 := by rw [nx_eq hfl]; exact key _ _ _ _ _ hR hS hF rfl
            clear key
            rw [hn]
            clear hn
            go_enter Try.func10, Try.ntmps10
            go_wp2_with fail
            exact bodyPost_ret (v := .tuple #[.int .i64 0, .bool false]) (by simp [results, Try.results10, go_sem]) rfl ⟨rfl, rfl⟩
    · skip
      rcases Bool.eq_false_or_eq_true (bits .and .u8 fl 4 != 0) with hR | hR
      · skip
        have key : ∀ b R S F A : Bool, R = true → S = false → nb 6 b R S F A = 7 := by decide +kernel
        have hn : nx 6 b fl = 7 := by rw [nx_eq hfl]; exact key _ _ _ _ _ hR hS
        clear key
        rw [hn]
        clear hn
        go_enter Try.func10, Try.ntmps10
        go_wp2_with fail
        exact bodyPost_ret (v := .tuple #[.int .i64 7, .bool true]) (by simp [results, Try.results10, go_sem]) rfl ⟨rfl, rfl⟩
      · skip
        rcases Bool.eq_false_or_eq_true (bits .and .u8 fl 1 != 0) with hF | hF
        · skip
          have key : ∀ b R S F A : Bool, R = false → S = false → F = true → nb 6 b R S F A = 6 := by decide +kernel
          have hn : nx 6 b fl = 6 := by rw [nx_eq hfl]; exact key _ _ _ _ _ hR hS hF
          clear key
          rw [hn]
          clear hn
          go_enter Try.func10, Try.ntmps10
          go_wp2_with fail
          exact bodyPost_ret (v := .tuple #[.int .i64 6, .bool true]) (by simp [results, Try.results10, go_sem]) rfl ⟨rfl, rfl⟩
        · skip
          rcases Bool.eq_false_or_eq_true (bits .and .u8 fl 16 != 0) with hA | hA
          · skip
            have key : ∀ b R S F A : Bool, R = false → S = false → F = false → A = true → nb 6 b R S F A = 6 := by decide +kernel
            have hn : nx 6 b fl = 6 := by rw [nx_eq hfl]; exact key _ _ _ _ _ hR hS hF hA
            clear key
            rw [hn]
            clear hn
            go_enter Try.func10, Try.ntmps10
            go_wp2_with fail
            exact bodyPost_ret (v := .tuple #[.int .i64 6, .bool true]) (by simp [results, Try.results10, go_sem]) rfl ⟨rfl, rfl⟩
          · skip
            have key : ∀ b R S F A : Bool, R = false → S = false → F = false → A = false → nb 6 b R S F A = 0 := by decide +kernel
            have hn : nx 6 b fl = 0 := by rw [nx_eq hfl]; exact key _ _ _ _ _ hR hS hF hA
            clear key
            rw [hn]
            clear hn
            go_enter Try.func10, Try.ntmps10
            go_wp2_with fail
            exact bodyPost_ret (v := .tuple #[.int .i64 0, .bool false]) (by simp [results, Try.results10, go_sem]) rfl ⟨rfl, rfl⟩
  by_cases e7 : s = 7
  · subst e7
    clear e0 e1 e2 e3 e4 e5 e6
    rcases Bool.eq_false_or_eq_true (bits .and .u8 fl 2 != 0) with hS | hS
    · skip
      rcases Bool.eq_false_or_eq_true (bits .and .u8 fl 1 != 0) with hF | hF
      · skip
        rcases Bool.eq_false_or_eq_true (bits .and .u8 fl 4 != 0) with hR | hR
        · skip
          cases b
          · skip
            rcases Bool.eq_false_or_eq_true (bgn fl) with hB | hB
            · skip
              have key : ∀ b R S F A : Bool, R = true → S = true → F = true → b = false → (S && !F && !R && !A) = true → nb 7 b R S F A = 1 := by decide +kernel
              have hn : nx 7 false fl = 1 := by rw [nx_eq hfl]; exact key _ _ _ _ _ hR hS hF rfl (by rw [← bgn_eq hfl]; exact hB)
              clear key
              rw [hn]
              clear hn
              go_enter Try.func10, Try.ntmps10
              go_wp2_with fail
              refine (rbegins_any fl _ hfl).mono ?_
              rintro e w1 ⟨rfl, rfl⟩
              rw [hB]
              go_wp2_with fail
              exact bodyPost_ret (v := .tuple #[.int .i64 1, .bool true]) (by simp [results, Try.results10, go_sem]) rfl ⟨rfl, rfl⟩
            · skip
              have key : ∀ b R S F A : Bool, R = true → S = true → F = true → b = false → (S && !F && !R && !A) = false → nb 7 b R S F A = 7 := by decide +kernel
              have hn : nx 7 false fl = 7 := by rw [nx_eq hfl]; exact key _ _ _ _ _ hR hS hF rfl (by rw [← bgn_eq hfl]; exact hB)
              clear key
              rw [hn]
              clear hn
              go_enter Try.func10, Try.ntmps10
              go_wp2_with fail
              refine (rbegins_any fl _ hfl).mono ?_
              rintro e w1 ⟨rfl, rfl⟩
              rw [hB]
              go_wp2_with fail
              exact bodyPost_ret (v := .tuple #[.int .i64 7, .bool true]) (by simp [results, Try.results10, go_sem]) rfl ⟨rfl, rfl⟩
          · skip
            have key : ∀ b R S F A : Bool, R = true → S = true → F = true → b = true → nb 7 b R S F A = 7 := by decide +kernel
            have hn : nx 7 true fl = 7 := by rw [nx_eq hfl]; exact key _ _ _ _ _ hR hS hF rfl
            clear key
            rw [hn]
            clear hn
            go_enter Try.func10, Try.ntmps10
            go_wp2_with fail
            exact bodyPost_ret (v := .tuple #[.int .i64 7, .bool true]) (by simp [results, Try.results10, go_sem]) rfl ⟨rfl, rfl⟩
        · skip
          have key : ∀ b R S F A : Bool, R = false → S = true → F = true → nb 7 b R S F A = 0 := by decide +kernel
          have hn : nx 7 b fl = 0 := by rw [nx_eq hfl]; exact key _ _ _ _ _ hR hS hF
          clear key
          rw [hn]
          clear hn
          go_enter Try.func10, Try.ntmps10
          go_wp2_with fail
          exact bodyPost_ret (v := .tuple #[.int .i64 0, .bool false]) (by simp [results, Try.results10, go_sem]) rfl ⟨rfl, rfl⟩
      · skip
        cases b
        · skip
          rcases Bool.eq_false_or_eq_true (bgn fl) with hB | hB
          · skip
            have key : ∀ b R S F A : Bool, S = true → F = false → b = false → (S && !F && !R && !A) = true → nb 7 b R S F A = 1 := by decide +kernel
            have hn : nx 7 false fl = 1 := by rw [nx_eq hfl]; exact key _ _ _ _ _ hS hF rfl (by rw [← bgn_eq hfl]; exact hB)
            clear key
            rw [hn]
            clear hn
            go_enter Try.func10, Try.ntmps10
            go_wp2_with fail
            refine (rbegins_any fl _ hfl).mono ?_
            rintro e w1 ⟨rfl, rfl⟩
            rw [hB]
            go_wp2_with fail
            exact bodyPost_ret (v := .tuple #[.int .i64 1, .bool true]) (by simp [results, Try.results10, go_sem]) rfl ⟨rfl, rfl⟩
          · skip
            rcases Bool.eq_false_or_eq_true (bits .and .u8 fl 4 != 0) with hR | hR
            · skip
              have key : ∀ b R S F A : Bool, R = true → S = true → F = false → b = false → (S && !F && !R && !A) = false → nb 7 b R S F A = 7 := by decide +kernel
              have hn : nx 7 false fl = 7 := by rw [nx_eq hfl]; exact key _ _ _ _ _ hR hS hF rfl (by rw [← bgn_eq hfl]; exact hB)
              clear key
              rw [hn]
              clear hn
              go_enter Try.func10, Try.ntmps10
              go_wp2_with fail
              refine (rbegins_any fl _ hfl).mono ?_
              rintro e w1 ⟨rfl, rfl⟩
              rw [hB]
              go_wp2_with fail
              exact bodyPost_ret (v := .tuple #[.int .i64 7, .bool true]) (by simp [results, Try.results10, go_sem]) rfl ⟨rfl, rfl⟩
            · skip
              have key : ∀ b R S F A : Bool, R = false → S = true → F = false → b = false → (S && !F && !R && !A) = false → nb 7 b R S F A = 0 := by decide +kernel
              have hn : nx 7 false fl = 0 := by rw [nx_eq hfl]; exact key _ _ _ _ _ hR hS hF rfl (by rw [← bgn_eq hfl]; exact hB)
              clear key
              rw [hn]
              clear hn
              go_enter Try.func10, Try.ntmps10
              go_wp2_with fail
              refine (rbegins_any fl _ hfl).mono ?_
              rintro e w1 ⟨rfl, rfl⟩
              rw [hB]
              go_wp2_with fail
              exact bodyPost_ret (v := .tuple #[.int .i64 0, .bool false]) (by simp [results, Try.results10, go_sem]) rfl ⟨rfl, rfl⟩
        · skip
          rcases Bool.eq_false_or_eq_true (bits .and .u8 fl 4 != 0) with hR | hR
          · skip
            have key : ∀ b R S F A : Bool, R = true → S = true → F = false → b = true → nb 7 b R S F A = 7 := by decide +kernel
            have hn : nx 7 true fl = 7 := by rw [nx_eq hfl]; exact key _ _ _ _ _ hR hS hF rfl
            clear key
            rw [hn]
            clear hn
            go_enter Try.func10, Try.ntmps10
            go_wp2_with fail
            exact bodyPost_ret (v := .tuple #[.int .i64 7, .bool true]) (by simp [results, Try.results10, go_sem]) rfl ⟨rfl, rfl⟩
          · skip
            have key : ∀ b R S F A : Bool, R = false → S = true → F = false → b = true → nb 7 b R S F A = 0 := by decide +kernel
            have hn : nx 7 true fl = 0 := by rw [nx_eq hfl]; exact key _ _ _ _ _ hR hS hF rfl
            clear key
            rw [hn]
            clear hn
            go_enter Try.func10, Try.ntmps10
            go_wp2_with fail
            exact bodyPost_ret (v := .tuple #[.int .i64 0, .bool false]) (by simp [results, Try.results10, go_sem]) rfl ⟨rfl, rfl⟩
    · skip
      cases b
      · skip
        rcases Bool.eq_false_or_eq_true (bgn fl) with hB | hB
        · skip
          have key : ∀ b R S F A : Bool, S = false → b = false → (S && !F && !R && !A) = true → nb 7 b R S F A = 1 := by decide +kernel
          have hn : nx 7 false fl = 1 := by rw [nx_eq hfl]; exact key _ _ _ _ _ hS rfl (by rw [← bgn_eq hfl]; exact hB)
          clear key
          rw [hn]
          clear hn
          go_enter Try.func10, Try.ntmps10
          go_wp2_with fail
          refine (rbegins_any fl _ hfl).mono ?_
          rintro e w1 ⟨rfl, rfl⟩
          rw [hB]
          go_wp2_with fail
          exact bodyPost_ret (v := .tuple #[.int .i64 1, .bool true]) (by simp [results, Try.results10, go_sem]) rfl ⟨rfl, rfl⟩
        · skip
          rcases Bool.eq_false_or_eq_true (bits .and .u8 fl 4 != 0) with hR | hR
          · skip
            have key : ∀ b R S F A : Bool, R = true → S = false → b = false → (S && !F && !R && !A) = false → nb 7 b R S F A = 7 := by decide +kernel
            have hn : nx 7 false fl = 7 := by rw [nx_eq hfl]; exact key _ _ _ _ _ hR hS rfl (by rw [← bgn_eq hfl]; exact hB)
            clear key
            rw [hn]
            clear hn
            go_enter Try.func10, Try.ntmps10
            go_wp2_with fail
            refine (rbegins_any fl _ hfl).mono ?_
            rintro e w1 ⟨rfl, rfl⟩
            rw [hB]
            go_wp2_with fail
            exact bodyPost_ret (v := .tuple #[.int .i64 7, .bool true]) (by simp [results, Try.results10, go_sem]) rfl ⟨rfl, rfl⟩
          · skip
            have key : ∀ b R S F A : Bool, R = false → S = false → b = false → (S && !F && !R && !A) = false → nb 7 b R S F A = 0 := by decide +kernel
            have hn : nx 7 false fl = 0 := by rw [nx_eq hfl]; exact key _ _ _ _ _ hR hS rfl (by rw [← bgn_eq hfl]; exact hB)
            clear key
            rw [hn]
            clear hn
            go_enter Try.func10, Try.ntmps10
            go_wp2_with fail
            refine (rbegins_any fl _ hfl).mono ?_
            rintro e w1 ⟨rfl, rfl⟩
            rw [hB]
            go_wp2_with fail
            exact bodyPost_ret (v := .tuple #[.int .i64 0, .bool false]) (by simp [results, Try.results10, go_sem]) rfl ⟨rfl, rfl⟩
      · skip
        rcases Bool.eq_false_or_eq_true (bits .and .u8 fl 4 != 0) with hR | hR
        · skip
          have key : ∀ b R S F A : Bool, R = true → S = false → b = true → nb 7 b R S F A = 7 := by decide +kernel
          have hn : nx 7 true fl = 7 := by rw [nx_eq hfl]; exact key _ _ _ _ _ hR hS rfl
          clear key
          rw [hn]
          clear hn
          go_enter Try.func10, Try.ntmps10
          go_wp2_with fail
          exact bodyPost_ret (v := .tuple #[.int .i64 7, .bool true]) (by simp [results, Try.results10, go_sem]) rfl ⟨rfl, rfl⟩
        · skip
          have key : ∀ b R S F A : Bool, R = false → S = false → b = true → nb 7 b R S F A = 0 := by decide +kernel
          have hn : nx 7 true fl = 0 := by rw [nx_eq hfl]; exact key _ _ _ _ _ hR hS rfl
          clear key
          rw [hn]
          clear hn
          go_enter Try.func10, Try.ntmps10
          go_wp2_with fail
          exact bodyPost_ret (v := .tuple #[.int .i64 0, .bool false]) (by simp [results, Try.results10, go_sem]) rfl ⟨rfl, rfl⟩
  have f0 : (s == 0) = false := by simp [e0]
  have f7 : (s == 7) = false := by simp [e7]
  by_cases hlo : s < 0
  · clear e0 e1 e2 e3 e4 e5 e6 e7
    rcases Bool.eq_false_or_eq_true (bits .and .u8 fl 2 != 0) with hS | hS
    · skip
      rcases Bool.eq_false_or_eq_true (bits .and .u8 fl 1 != 0) with hF | hF
      · skip
        rcases Bool.eq_false_or_eq_true (bits .and .u8 fl 4 != 0) with hR | hR
        · skip
          have hn : nx s b fl = 0 := nx_other hfl (by omega)
          rw [hn]
          clear hn
          go_enter Try.func10, Try.ntmps10
          go_wp2_with fail
          exact bodyPost_ret (v := .tuple #[.int .i64 0, .bool false]) (by simp [results, Try.results10, go_sem]) rfl ⟨rfl, rfl⟩
        · skip
          have hn : nx s b fl = 0 := nx_other hfl (by omega)
          rw [hn]
          clear hn
          go_enter Try.func10, Try.ntmps10
          go_wp2_with fail
          exact bodyPost_ret (v := .tuple #[.int .i64 0, .bool false]) (by simp [results, Try.results10, go_sem]) rfl ⟨rfl, rfl⟩
      · skip
        have hn : nx s b fl = 0 := nx_other hfl (by omega)
        rw [hn]
        clear hn
        go_enter Try.func10, Try.ntmps10
        go_wp2_with fail
        exact bodyPost_ret (v := .tuple #[.int .i64 0, .bool false]) (by simp [results, Try.results10, go_sem]) rfl ⟨rfl, rfl⟩
    · skip
      have hn : nx s b fl = 0 := nx_other hfl (by omega)
      rw [hn]
      clear hn
      go_enter Try.func10, Try.ntmps10
      go_wp2_with fail
      exact bodyPost_ret (v := .tuple #[.int .i64 0, .bool false]) (by simp [results, Try.results10, go_sem]) rfl ⟨rfl, rfl⟩
  · have hhi : 7 < s := by omega
    clear e0 e1 e2 e3 e4 e5 e6 e7 hlo
    rcases Bool.eq_false_or_eq_true (bits .and .u8 fl 2 != 0) with hS | hS
    · skip
      rcases Bool.eq_false_or_eq_true (bits .and .u8 fl 1 != 0) with hF | hF
      · skip
        rcases Bool.eq_false_or_eq_true (bits .and .u8 fl 4 != 0) with hR | hR
        · skip
          have hn : nx s b fl = 0 := nx_other hfl (by omega)
          rw [hn]
          clear hn
          go_enter Try.func10, Try.ntmps10
          go_wp2_with fail
          exact bodyPost_ret (v := .tuple #[.int .i64 0, .bool false]) (by simp [results, Try.results10, go_sem]) rfl ⟨rfl, rfl⟩
        · skip
          have hn : nx s b fl = 0 := nx_other hfl (by omega)
          rw [hn]
          clear hn
          go_enter Try.func10, Try.ntmps10
          go_wp2_with fail
          exact bodyPost_ret (v := .tuple #[.int .i64 0, .bool false]) (by simp [results, Try.results10, go_sem]) rfl ⟨rfl, rfl⟩
      · skip
        have hn : nx s b fl = 0 := nx_other hfl (by omega)
        rw [hn]
        clear hn
        go_enter Try.func10, Try.ntmps10
        go_wp2_with fail
        exact bodyPost_ret (v := .tuple #[.int .i64 0, .bool false]) (by simp [results, Try.results10, go_sem]) rfl ⟨rfl, rfl⟩
    · skip
      have hn : nx s b fl = 0 := nx_other hfl (by omega)
      rw [hn]
      clear hn
      go_enter Try.func10, Try.ntmps10
      go_wp2_with fail
      exact bodyPost_ret (v := .tuple #[.int .i64 0, .bool false]) (by simp [results, Try.results10, go_sem]) rfl ⟨rfl, rfl⟩

end Go.Proofs.Ytbkggohjbigbgaa
