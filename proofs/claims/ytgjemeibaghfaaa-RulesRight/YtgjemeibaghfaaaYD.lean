/- The document's Right of rules. -/
import Derived.Test.YtgjemeibaghfaaaYC
namespace Go.Proofs.Ytgjemeibaghfaaa
open Go.RowKit Go.Shelf
set_option maxRecDepth 100000
set_option linter.unusedVariables false
set_option linter.unusedSimpArgs false

set_option maxHeartbeats 8000000 in
theorem rright9_any (x : Ru) (w : World) (hx : wfR x) :
    Calls Try.prog 15 #[.agg (ruc x).toArray] w fun e w' => e = .returned (.bool (rtB x)) ∧ Later w w' := by
  obtain ⟨kind, proto, net, bts, to, port, host, hp⟩ := x
  obtain ⟨_, _, hn, _⟩ := hx
  simp only at hn
  unfold ruc
  simp only
  have hU : ∀ W, 0 ≤ bts → bts ≤ 32 → Calls Try.prog 31 #[.int .u32 net, .int .i64 bts] W fun e w' => e = .returned (.int .u32 (upp net bts)) ∧ w' = W := fun W h0 h1 => rupper_any net bts W hn h0 h1
  have lb0 : Later w (w.alloc (.cells #[.int .i64 kind, .int .u8 proto, .int .u32 net, .int .i64 bts, .int .u32 to, .int .u16 port, .int .u32 host, .int .u16 hp] 36)) := (Below.refl _ _).alloc (Nat.le_refl _) _
  have c0 := block_cell (heap_alloc_new w (.cells #[.int .i64 kind, .int .u8 proto, .int .u32 net, .int .i64 bts, .int .u32 to, .int .u16 port, .int .u32 host, .int .u16 hp] 36))
  go_enter Try.func15, Try.ntmps15
  by_cases k1 : kind = 1
  · subst k1
    go_wp2_with fail
    generalize w.alloc (.cells #[.int .i64 1, .int .u8 proto, .int .u32 net, .int .i64 bts, .int .u32 to, .int .u16 port, .int .u32 host, .int .u16 hp] 36) = w0 at *
    by_cases h0 : bts < 0
    · have e0 : decide (0 ≤ bts) = false := by simp; omega
      go_quiet (fail)
      go_wp2_with fail
      go_ret
      exact ⟨by simp [rtB, rtM, *] <;> omega, lb0.trans (below_draw (Later.refl _) _)⟩
    · have e0 : 0 ≤ bts := by omega
      by_cases h1 : 32 < bts
      · have e1 : decide (bts ≤ 32) = false := by simp; omega
        go_quiet (fail)
        go_wp2_with fail
        go_ret
        exact ⟨by simp [rtB, rtM, *] <;> omega, lb0.trans (below_draw (Later.refl _) _)⟩
      · have e1 : bts ≤ 32 := by omega
        by_cases hq : upp net bts = net
        · by_cases h4 : to = 0
          · go_quiet (first | (go_at_call 31; exact Calls.quiet_of_same (hU _ (by omega) (by omega))))
            go_wp2_with fail
            go_ret
            exact ⟨by simp [rtB, rtM, *] <;> omega, lb0.trans (below_draw (Later.refl _) _)⟩
          · by_cases g1 : proto = 0
            · by_cases g2 : port = 0
              · by_cases g3 : host = 0
                · by_cases g4 : hp = 0
                  · go_quiet (first | (go_at_call 31; exact Calls.quiet_of_same (hU _ (by omega) (by omega))))
                    go_wp2_with fail
                    go_ret
                    exact ⟨by simp [rtB, rtM, *] <;> omega, lb0.trans (below_draw (Later.refl _) _)⟩
                  · go_quiet (first | (go_at_call 31; exact Calls.quiet_of_same (hU _ (by omega) (by omega))))
                    go_wp2_with fail
                    go_ret
                    exact ⟨by simp [rtB, rtM, *] <;> omega, lb0.trans (below_draw (Later.refl _) _)⟩
                · go_quiet (first | (go_at_call 31; exact Calls.quiet_of_same (hU _ (by omega) (by omega))))
                  go_wp2_with fail
                  go_ret
                  exact ⟨by simp [rtB, rtM, *] <;> omega, lb0.trans (below_draw (Later.refl _) _)⟩
              · go_quiet (first | (go_at_call 31; exact Calls.quiet_of_same (hU _ (by omega) (by omega))))
                go_wp2_with fail
                go_ret
                exact ⟨by simp [rtB, rtM, *] <;> omega, lb0.trans (below_draw (Later.refl _) _)⟩
            · go_quiet (first | (go_at_call 31; exact Calls.quiet_of_same (hU _ (by omega) (by omega))))
              go_wp2_with fail
              go_ret
              exact ⟨by simp [rtB, rtM, *] <;> omega, lb0.trans (below_draw (Later.refl _) _)⟩
        · go_quiet (first | (go_at_call 31; exact Calls.quiet_of_same (hU _ (by omega) (by omega))))
          go_wp2_with fail
          go_ret
          exact ⟨by simp [rtB, rtM, *] <;> omega, lb0.trans (below_draw (Later.refl _) _)⟩
  · by_cases k2 : kind = 2
    · subst k2
      by_cases p1 : proto = 6
      · by_cases h4 : to = 0
        · go_wp2_with fail
          go_ret
          exact ⟨by simp [rtB, rtD, *], (Below.refl _ _).alloc (Nat.le_refl _) _⟩
        · by_cases h5 : port = 0
          · go_wp2_with fail
            go_ret
            exact ⟨by simp [rtB, rtD, *], (Below.refl _ _).alloc (Nat.le_refl _) _⟩
          · by_cases h6 : host = 0
            · go_wp2_with fail
              go_ret
              exact ⟨by simp [rtB, rtD, *], (Below.refl _ _).alloc (Nat.le_refl _) _⟩
            · by_cases h7 : hp = 0
              · go_wp2_with fail
                go_ret
                exact ⟨by simp [rtB, rtD, *], (Below.refl _ _).alloc (Nat.le_refl _) _⟩
              · by_cases h8 : net = 0
                · by_cases h9 : bts = 0
                  · go_wp2_with fail
                    go_ret
                    exact ⟨by simp [rtB, rtD, *], (Below.refl _ _).alloc (Nat.le_refl _) _⟩
                  · go_wp2_with fail
                    go_ret
                    exact ⟨by simp [rtB, rtD, *], (Below.refl _ _).alloc (Nat.le_refl _) _⟩
                · go_wp2_with fail
                  go_ret
                  exact ⟨by simp [rtB, rtD, *], (Below.refl _ _).alloc (Nat.le_refl _) _⟩
      · by_cases p2 : proto = 17
        · by_cases h4 : to = 0
          · go_wp2_with fail
            go_ret
            exact ⟨by simp [rtB, rtD, *], (Below.refl _ _).alloc (Nat.le_refl _) _⟩
          · by_cases h5 : port = 0
            · go_wp2_with fail
              go_ret
              exact ⟨by simp [rtB, rtD, *], (Below.refl _ _).alloc (Nat.le_refl _) _⟩
            · by_cases h6 : host = 0
              · go_wp2_with fail
                go_ret
                exact ⟨by simp [rtB, rtD, *], (Below.refl _ _).alloc (Nat.le_refl _) _⟩
              · by_cases h7 : hp = 0
                · go_wp2_with fail
                  go_ret
                  exact ⟨by simp [rtB, rtD, *], (Below.refl _ _).alloc (Nat.le_refl _) _⟩
                · by_cases h8 : net = 0
                  · by_cases h9 : bts = 0
                    · go_wp2_with fail
                      go_ret
                      exact ⟨by simp [rtB, rtD, *], (Below.refl _ _).alloc (Nat.le_refl _) _⟩
                    · go_wp2_with fail
                      go_ret
                      exact ⟨by simp [rtB, rtD, *], (Below.refl _ _).alloc (Nat.le_refl _) _⟩
                  · go_wp2_with fail
                    go_ret
                    exact ⟨by simp [rtB, rtD, *], (Below.refl _ _).alloc (Nat.le_refl _) _⟩
        · go_wp2_with fail
          go_ret
          exact ⟨by simp [rtB, rtD, *], (Below.refl _ _).alloc (Nat.le_refl _) _⟩
    · go_wp2_with fail
      go_ret
      exact ⟨by simp [rtB, k1, k2], lb0⟩
end Go.Proofs.Ytgjemeibaghfaaa
