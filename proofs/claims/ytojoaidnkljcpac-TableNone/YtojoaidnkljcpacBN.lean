/- The walk of TableNone. -/
import Derived.Test.YtojoaidnkljcpacBM
namespace Go.Proofs.Ytojoaidnkljcpac
open Go.RowKit Go.Shelf
set_option maxRecDepth 100000
set_option linter.unusedVariables false
set_option linter.unusedSimpArgs false

set_option maxHeartbeats 8000000 in
theorem none_any (w : World) (kd p s d a b id till n : Int) :
    Calls Try.prog 3 #[.agg #[.int .i64 kd, .int .u8 p, .int .u32 s, .int .u32 d, .int .u16 a, .int .u16 b, .int .i64 id, .int .i64 till], .int .i64 n] w fun e w' => e = .returned (.bool true) ∧ Below w.heap.size w w' := by
  have lb0 : Later w (w.alloc (.cells #[.int .i64 kd, .int .u8 p, .int .u32 s, .int .u32 d, .int .u16 a, .int .u16 b, .int .i64 id, .int .i64 till] 27)) := (Below.refl _ _).alloc (Nat.le_refl _) _
  have t0 := heap_alloc_new w (.cells #[.int .i64 kd, .int .u8 p, .int .u32 s, .int .u32 d, .int .u16 a, .int .u16 b, .int .i64 id, .int .i64 till] 27)
  go_enter Try.func3, Try.ntmps3
  go_wp2_with fail
  generalize w.alloc (.cells #[.int .i64 kd, .int .u8 p, .int .u32 s, .int .u32 d, .int .u16 a, .int .u16 b, .int .i64 id, .int .i64 till] 27) = w0 at *
  refine (get_nil p s d a b w0).mono ?_
  rintro e w1 ⟨rfl, hb1⟩
  have l1 : Later w0 w1 := hb1
  go_wp2_with fail
  refine (first_nil w1).mono ?_
  rintro e w2 ⟨rfl, hb2⟩
  have l2 : Later w0 w2 := l1.trans hb2
  have lf : Later w2 (w2.alloc (.cells #[.int .u8 0, .int .u32 0, .int .u32 0, .int .u16 0, .int .u16 0] 25)) := (Below.refl _ _).alloc (Nat.le_refl _) _
  have tf := heap_alloc_new w2 (.cells #[.int .u8 0, .int .u32 0, .int .u32 0, .int .u16 0, .int .u16 0] 25)
  have l3 := l2.trans lf
  go_wp2_with fail
  generalize w2.alloc (.cells #[.int .u8 0, .int .u32 0, .int .u32 0, .int .u16 0, .int .u16 0] 25) = w3 at *
  refine (live6_any w3).mono ?_
  rintro e w4 ⟨rfl, hb4⟩
  have l4 : Later w3 w4 := hb4
  have t4 := later_keep (l3.trans l4) t0
  have f4 := later_keep l4 tf
  have k4 := block_cell t4
  go_wp2_with fail
  refine (put_nil p s d a b id till w4).mono ?_
  rintro e w5 ⟨rfl, hb5⟩
  have l5 : Later w4 w5 := hb5
  have t5 := later_keep l5 t4
  have f5 := later_keep l5 f4
  clear k4
  have k5 := block_cell t5
  go_wp2_with fail
  refine (move_nil p s d a b till w5).mono ?_
  rintro e w6 ⟨rfl, hb6⟩
  have l6 : Later w5 w6 := hb6
  have t6 := later_keep l6 t5
  have f6 := later_keep l6 f5
  clear k5
  have k6 := block_cell t6
  go_wp2_with fail
  refine (drop_nil p s d a b w6).mono ?_
  rintro e w7 ⟨rfl, hb7⟩
  have l7 : Later w6 w7 := hb7
  have t7 := later_keep l7 t6
  have f7 := later_keep l7 f6
  clear k6
  have k7 := block_cell f7
  go_wp2_with fail
  refine (len_nil w7).mono ?_
  rintro e w8 ⟨rfl, rfl⟩
  clear k7
  have k8 := block_cell t7
  go_wp2_with fail
  refine (due_nil till w8).mono ?_
  rintro e w9 ⟨rfl, hb9⟩
  have l9 : Later w8 w9 := hb9
  clear k8
  go_wp2_with fail
  refine (fork_nil w9).mono ?_
  rintro e w10 ⟨rfl, rfl⟩
  have lz : Later w w10 := lb0.trans (l3.trans (l4.trans (l5.trans (l6.trans (l7.trans l9)))))
  go_wp2_with fail
  by_cases h1 : n < 1
  · refine (new_no n w10 (.inl h1)).mono ?_
    rintro e w11 ⟨rfl, rfl⟩
    go_wp2_with fail
    go_ret
    exact ⟨rfl, lz⟩
  · by_cases h2 : 4096 < n
    · refine (new_no n w10 (.inr h2)).mono ?_
      rintro e w11 ⟨rfl, rfl⟩
      go_wp2_with fail
      go_ret
      exact ⟨rfl, lz⟩
    · refine (new_yes n w10 (by omega) (by omega)).mono ?_
      rintro e w11 ⟨rfl, hb11, _⟩
      have lz2 : Later w w11 := lz.trans hb11
      go_wp2_with fail
      go_ret
      exact ⟨by first | rfl | (simp; omega) | simp_all, lz2⟩

theorem walk_TableNone (w : World) (kd p s d a b id till : Int) (hk : -9223372036854775808 ≤ kd ∧ kd ≤ 9223372036854775807) (hp : 0 ≤ p ∧ p ≤ 255) (hs : 0 ≤ s ∧ s ≤ 4294967295) (hd : 0 ≤ d ∧ d ≤ 4294967295) (ha : 0 ≤ a ∧ a ≤ 65535) (hb : 0 ≤ b ∧ b ≤ 65535) (hi : -9223372036854775808 ≤ id ∧ id ≤ 9223372036854775807) (ht : -9223372036854775808 ≤ till ∧ till ≤ 9223372036854775807) (n : Int) (hn : -9223372036854775808 ≤ n ∧ n ≤ 9223372036854775807) :
    Calls Try.prog 3 #[.agg #[.int .i64 kd, .int .u8 p, .int .u32 s, .int .u32 d, .int .u16 a, .int .u16 b, .int .i64 id, .int .i64 till], .int .i64 n] w fun e w' => e = .returned (.bool true) ∧ Below w.heap.size w w' := none_any w kd p s d a b id till n
end Go.Proofs.Ytojoaidnkljcpac
