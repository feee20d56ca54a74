/- Package rules: upper bits; which rules are right. -/
import Derived.Test.YtgjemeibaghfaabYA
namespace Go.Proofs.Ytgjemeibaghfaab
open Go.RowKit Go.Shelf
set_option maxRecDepth 100000
set_option linter.unusedVariables false
set_option linter.unusedSimpArgs false

theorem and_upm (n k : Int) (hn : 0 ≤ n ∧ n ≤ 4294967295) (h0 : 0 ≤ k) (h1 : k ≤ 32) : bits .and .u32 n (upm k) = upp n k := by
  have hb := upm_bd k h0 h1
  rw [u32_and n (upm k) hn.1 (by omega) hb.1 (by omega)]
  have h2 : (2 : Nat) ^ (32 - k.toNat) ≤ 2 ^ 32 := Nat.pow_le_pow_right (by omega) (by omega)
  have e : (upm k).toNat = 4294967296 - 2 ^ (32 - k.toNat) := by
    unfold upm
    have e : ((2 : Int) ^ (32 - k.toNat)) = ((2 ^ (32 - k.toNat) : Nat) : Int) := by simp
    rw [e]
    omega
  rw [e, nat_and_up n.toNat (32 - k.toNat) (by omega) (by omega)]
  unfold upp
  simp
  rw [Int.max_eq_left hn.1]
theorem andNot_upm (n k : Int) (hn : 0 ≤ n ∧ n ≤ 4294967295) (h0 : 0 ≤ k) (h1 : k ≤ 32) : bits .andNot .u32 n (upm k) = n % 2 ^ (32 - k.toNat) := by
  have hb := upm_bd k h0 h1
  rw [u32_andNot n (upm k) hn.1 (by omega) hb.1 (by omega)]
  have h2 : (2 : Nat) ^ (32 - k.toNat) ≤ 2 ^ 32 := Nat.pow_le_pow_right (by omega) (by omega)
  have h3 : 0 < (2 : Nat) ^ (32 - k.toNat) := Nat.pow_pos (by omega)
  have e : 4294967295 - (upm k).toNat = 2 ^ (32 - k.toNat) - 1 := by
    unfold upm
    have e : ((2 : Int) ^ (32 - k.toNat)) = ((2 ^ (32 - k.toNat) : Nat) : Int) := by simp
    rw [e]
    omega
  rw [e, Nat.and_two_pow_sub_one_eq_mod]
  simp
  rw [Int.max_eq_left hn.1]
theorem upp_iff (n k : Int) : (n % 2 ^ (32 - k.toNat) = 0) ↔ upp n k = n := by
  unfold upp
  have := Int.emod_add_mul_ediv n (2 ^ (32 - k.toNat))
  rw [Int.mul_comm] at this
  generalize n / 2 ^ (32 - k.toNat) * 2 ^ (32 - k.toNat) = x at *
  generalize n % 2 ^ (32 - k.toNat) = y at *
  omega
theorem shl_upm (k : Int) (h0 : 0 ≤ k) (h1 : k ≤ 32) : (4294967295 : Int) * 2 ^ (32 - k).toNat % 4294967296 = upm k := by
  obtain ⟨j, rfl⟩ := Int.eq_ofNat_of_zero_le h0
  have hj : j ≤ 32 := by omega
  have e : ((32 : Int) - (j : Int)).toNat = 32 - j := by omega
  rw [e]
  unfold upm
  simp only [Int.toNat_natCast]
  have h2 : (2 : Nat) ^ (32 - j) ≤ 2 ^ 32 := Nat.pow_le_pow_right (by omega) (by omega)
  have h3 : 0 < (2 : Nat) ^ (32 - j) := Nat.pow_pos (by omega)
  have e : ((2 : Int) ^ (32 - j)) = ((2 ^ (32 - j) : Nat) : Int) := by simp
  rw [e]
  omega

set_option maxHeartbeats 400000 in
theorem upper_any (k : Int) (w : World) (h0 : 0 ≤ k) (h1 : k ≤ 32) : Calls Try.prog 19 #[.int .i64 k] w fun e w' => e = .returned (.int .u32 (upm k)) ∧ w' = w := by
  have h2 : 0 ≤ 32 - k := by omega
  have h3 : 32 - k ≤ 32 := by omega
  have HU := hide (shl_upm k h0 h1)
  go_enter Try.func19, Try.ntmps19
  go_wp2_with fail
  go_ret
  exact ⟨ret_int HU.out, rfl⟩

def rtM (x : Ru) : Bool := decide (0 ≤ x.bits) && (decide (x.bits ≤ 32) && (decide (upp x.net x.bits = x.net) && (decide (x.to ≠ 0) && (decide (x.proto = 0) && (decide (x.port = 0) && (decide (x.host = 0) && decide (x.hp = 0)))))))
def rtD (x : Ru) : Bool := (decide (x.proto = 6) || decide (x.proto = 17)) && (decide (x.to ≠ 0) && (decide (x.port ≠ 0) && (decide (x.host ≠ 0) && (decide (x.hp ≠ 0) && (decide (x.net = 0) && decide (x.bits = 0))))))
/-- Is the rule right? -/
def rtB (x : Ru) : Bool := if x.kind = 1 then rtM x else if x.kind = 2 then rtD x else false

set_option maxHeartbeats 2000000 in
theorem rightMasq_any (x : Ru) (w : World) (hx : wfR x) (hk : x.kind = 1) :
    Calls Try.prog 20 #[.agg (ruc x).toArray] w fun e w' => e = .returned (.bool (rtM x)) ∧ Later w w' := by
  obtain ⟨kind, proto, net, bts, to, port, host, hp⟩ := x
  obtain ⟨_, h1, h2, h3, h4, h5, h6, h7⟩ := hx
  simp only at hk h1 h2 h3 h4 h5 h6 h7
  unfold ruc
  simp only
  subst hk
  have lb0 : Later w (w.alloc (.cells #[.int .i64 1, .int .u8 proto, .int .u32 net, .int .i64 bts, .int .u32 to, .int .u16 port, .int .u32 host, .int .u16 hp] 30)) := (Below.refl _ _).alloc (Nat.le_refl _) _
  have c0 := block_cell (heap_alloc_new w (.cells #[.int .i64 1, .int .u8 proto, .int .u32 net, .int .i64 bts, .int .u32 to, .int .u16 port, .int .u32 host, .int .u16 hp] 30))
  go_enter Try.func20, Try.ntmps20
  go_wp2_with fail
  generalize w.alloc (.cells #[.int .i64 1, .int .u8 proto, .int .u32 net, .int .i64 bts, .int .u32 to, .int .u16 port, .int .u32 host, .int .u16 hp] 30) = w0 at *
  by_cases b0 : bts < 0
  · go_quiet (fail)
    go_wp2_with fail
    go_ret
    exact ⟨by simp [rtM]; omega, lb0.trans (below_draw (Later.refl _) _)⟩
  · by_cases b1 : 32 < bts
    · go_quiet (fail)
      go_wp2_with fail
      go_ret
      exact ⟨by simp [rtM]; omega, lb0.trans (below_draw (Later.refl _) _)⟩
    · have hU : ∀ W, Calls Try.prog 19 #[.int .i64 bts] W fun e w' => e = .returned (.int .u32 (upm bts)) ∧ w' = W := fun W => upper_any bts W (by omega) (by omega)
      have hz := andNot_upm net bts h2 (by omega) (by omega)
      have hi := upp_iff net bts
      by_cases hz0 : bits .andNot .u32 net (upm bts) = 0
      · have hq : upp net bts = net := by rw [← hi, ← hz]; exact hz0
        have HQ := hide hq
        have B0 := hide b0
        have B1 := hide b1
        clear hi hz hq
        by_cases ht : to = 0
        · go_quiet (first | (go_at_call 19; exact Calls.quiet_of_same (hU _)))
          go_wp2_with fail
          go_ret
          exact ⟨by simp [rtM, ht], lb0.trans (below_draw (Later.refl _) _)⟩
        · go_quiet (first | (go_at_call 19; exact Calls.quiet_of_same (hU _)))
          go_wp2_with fail
          all_goals go_ret
          all_goals refine ⟨?_, lb0.trans (below_draw (Later.refl _) _)⟩
          all_goals have hq := HQ.out
          all_goals simp_all [rtM]
          all_goals omega
      · have hq : ¬ upp net bts = net := by rw [← hi, ← hz]; exact hz0
        have HQ := hide hq
        have B0 := hide b0
        have B1 := hide b1
        clear hi hz hq
        go_quiet (first | (go_at_call 19; exact Calls.quiet_of_same (hU _)))
        go_wp2_with fail
        go_ret
        exact ⟨by simp [rtM, HQ.out], lb0.trans (below_draw (Later.refl _) _)⟩
end Go.Proofs.Ytgjemeibaghfaab
