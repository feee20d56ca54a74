/- Package rules: Right, and the document's. -/
import Derived.Test.YtgjemeibaghfaabYB
namespace Go.Proofs.Ytgjemeibaghfaab
open Go.RowKit Go.Shelf
set_option maxRecDepth 100000
set_option linter.unusedVariables false
set_option linter.unusedSimpArgs false

set_option maxHeartbeats 2000000 in
theorem rightDnat_any (x : Ru) (w : World) :
    Calls Try.prog 21 #[.agg (ruc x).toArray] w fun e w' => e = .returned (.bool (rtD x)) ∧ Later w w' := by
  obtain ⟨kind, proto, net, bts, to, port, host, hp⟩ := x
  unfold ruc
  simp only
  have lb0 : Later w (w.alloc (.cells #[.int .i64 kind, .int .u8 proto, .int .u32 net, .int .i64 bts, .int .u32 to, .int .u16 port, .int .u32 host, .int .u16 hp] 30)) := (Below.refl _ _).alloc (Nat.le_refl _) _
  have c0 := block_cell (heap_alloc_new w (.cells #[.int .i64 kind, .int .u8 proto, .int .u32 net, .int .i64 bts, .int .u32 to, .int .u16 port, .int .u32 host, .int .u16 hp] 30))
  go_enter Try.func21, Try.ntmps21
  by_cases p1 : proto = 6
  · by_cases h4 : to = 0
    · go_wp2_with fail
      go_ret
      exact ⟨by simp [rtD, *], (Below.refl _ _).alloc (Nat.le_refl _) _⟩
    · by_cases h5 : port = 0
      · go_wp2_with fail
        go_ret
        exact ⟨by simp [rtD, *], (Below.refl _ _).alloc (Nat.le_refl _) _⟩
      · by_cases h6 : host = 0
        · go_wp2_with fail
          go_ret
          exact ⟨by simp [rtD, *], (Below.refl _ _).alloc (Nat.le_refl _) _⟩
        · by_cases h7 : hp = 0
          · go_wp2_with fail
            go_ret
            exact ⟨by simp [rtD, *], (Below.refl _ _).alloc (Nat.le_refl _) _⟩
          · by_cases h8 : net = 0
            · by_cases h9 : bts = 0
              · go_wp2_with fail
                go_ret
                exact ⟨by simp [rtD, *], (Below.refl _ _).alloc (Nat.le_refl _) _⟩
              · go_wp2_with fail
                go_ret
                exact ⟨by simp [rtD, *], (Below.refl _ _).alloc (Nat.le_refl _) _⟩
            · go_wp2_with fail
              go_ret
              exact ⟨by simp [rtD, *], (Below.refl _ _).alloc (Nat.le_refl _) _⟩
  · by_cases p2 : proto = 17
    · by_cases h4 : to = 0
      · go_wp2_with fail
        go_ret
        exact ⟨by simp [rtD, *], (Below.refl _ _).alloc (Nat.le_refl _) _⟩
      · by_cases h5 : port = 0
        · go_wp2_with fail
          go_ret
          exact ⟨by simp [rtD, *], (Below.refl _ _).alloc (Nat.le_refl _) _⟩
        · by_cases h6 : host = 0
          · go_wp2_with fail
            go_ret
            exact ⟨by simp [rtD, *], (Below.refl _ _).alloc (Nat.le_refl _) _⟩
          · by_cases h7 : hp = 0
            · go_wp2_with fail
              go_ret
              exact ⟨by simp [rtD, *], (Below.refl _ _).alloc (Nat.le_refl _) _⟩
            · by_cases h8 : net = 0
              · by_cases h9 : bts = 0
                · go_wp2_with fail
                  go_ret
                  exact ⟨by simp [rtD, *], (Below.refl _ _).alloc (Nat.le_refl _) _⟩
                · go_wp2_with fail
                  go_ret
                  exact ⟨by simp [rtD, *], (Below.refl _ _).alloc (Nat.le_refl _) _⟩
              · go_wp2_with fail
                go_ret
                exact ⟨by simp [rtD, *], (Below.refl _ _).alloc (Nat.le_refl _) _⟩
    · go_wp2_with fail
      go_ret
      exact ⟨by simp [rtD, *], (Below.refl _ _).alloc (Nat.le_refl _) _⟩

set_option maxHeartbeats 2000000 in
theorem right9_any (x : Ru) (w : World) (hx : wfR x) :
    Calls Try.prog 12 #[.agg (ruc x).toArray] w fun e w' => e = .returned (.bool (rtB x)) ∧ Later w w' := by
  obtain ⟨kind, proto, net, bts, to, port, host, hp⟩ := x
  have hM : ∀ W, kind = 1 → Calls Try.prog 20 #[.agg #[.int .i64 kind, .int .u8 proto, .int .u32 net, .int .i64 bts, .int .u32 to, .int .u16 port, .int .u32 host, .int .u16 hp]] W fun e w' => e = .returned (.bool (rtM ⟨kind, proto, net, bts, to, port, host, hp⟩)) ∧ Later W w' := fun W h => rightMasq_any ⟨kind, proto, net, bts, to, port, host, hp⟩ W hx h
  have hD : ∀ W, Calls Try.prog 21 #[.agg #[.int .i64 kind, .int .u8 proto, .int .u32 net, .int .i64 bts, .int .u32 to, .int .u16 port, .int .u32 host, .int .u16 hp]] W fun e w' => e = .returned (.bool (rtD ⟨kind, proto, net, bts, to, port, host, hp⟩)) ∧ Later W w' := fun W => rightDnat_any ⟨kind, proto, net, bts, to, port, host, hp⟩ W
  have HM := hide hM
  have HD := hide hD
  clear hM hD
  unfold ruc
  simp only
  have hr1 : kind = 1 → rtB ⟨kind, proto, net, bts, to, port, host, hp⟩ = rtM ⟨kind, proto, net, bts, to, port, host, hp⟩ := fun h => by simp [rtB, h]
  have hr2 : kind = 2 → rtB ⟨kind, proto, net, bts, to, port, host, hp⟩ = rtD ⟨kind, proto, net, bts, to, port, host, hp⟩ := fun h => by simp [rtB, h]
  have hr3 : kind ≠ 1 → kind ≠ 2 → rtB ⟨kind, proto, net, bts, to, port, host, hp⟩ = false := fun h h2 => by simp [rtB, h, h2]
  generalize rtB ⟨kind, proto, net, bts, to, port, host, hp⟩ = tb at *
  generalize rtM ⟨kind, proto, net, bts, to, port, host, hp⟩ = tm at *
  generalize rtD ⟨kind, proto, net, bts, to, port, host, hp⟩ = td at *
  have HR1 := hide hr1
  have HR2 := hide hr2
  have HR3 := hide hr3
  clear hr1 hr2 hr3 hx
  have lb0 : Later w (w.alloc (.cells #[.int .i64 kind, .int .u8 proto, .int .u32 net, .int .i64 bts, .int .u32 to, .int .u16 port, .int .u32 host, .int .u16 hp] 30)) := (Below.refl _ _).alloc (Nat.le_refl _) _
  have c0 := block_cell (heap_alloc_new w (.cells #[.int .i64 kind, .int .u8 proto, .int .u32 net, .int .i64 bts, .int .u32 to, .int .u16 port, .int .u32 host, .int .u16 hp] 30))
  go_enter Try.func12, Try.ntmps12
  by_cases k1 : kind = 1
  · subst k1
    go_wp2_with fail
    generalize w.alloc _ = w0 at *
    refine (HM.out w0 trivial).mono ?_
    rintro e w1 ⟨rfl, l1⟩
    go_wp2_with fail
    go_ret
    exact ⟨by rw [HR1.out trivial]; rfl, lb0.trans l1⟩
  · by_cases k2 : kind = 2
    · subst k2
      go_wp2_with fail
      generalize w.alloc _ = w0 at *
      refine (HD.out w0).mono ?_
      rintro e w1 ⟨rfl, l1⟩
      go_wp2_with fail
      go_ret
      exact ⟨by rw [HR2.out trivial]; rfl, lb0.trans l1⟩
    · go_wp2_with fail
      go_ret
      exact ⟨by rw [HR3.out k1 k2]; rfl, lb0⟩

theorem nat_clear (n i : Nat) (hn : n < 4294967296) (hi : i < 32) : (n / 2 ^ i * 2 ^ i) &&& (4294967295 - 2 ^ i) = n / 2 ^ (i + 1) * 2 ^ (i + 1) := by
  have e0 : n / 2 ^ i * 2 ^ i = (n >>> i) <<< i := by rw [Nat.shiftLeft_eq, Nat.shiftRight_eq_div_pow]
  have e1 : n / 2 ^ (i + 1) * 2 ^ (i + 1) = (n >>> (i + 1)) <<< (i + 1) := by rw [Nat.shiftLeft_eq, Nat.shiftRight_eq_div_pow]
  rw [e0, e1]
  apply Nat.eq_of_testBit_eq
  intro j
  have e2 : (4294967295 - 2 ^ i).testBit j = (decide (j < 32) && !(decide (i = j))) := by
    have h32 : 2 ^ i < 2 ^ 32 := Nat.pow_lt_pow_right (by omega) hi
    have := Nat.testBit_two_pow_sub_succ (n := 32) (x := 2 ^ i) h32 j
    rw [show 2 ^ 32 - (2 ^ i + 1) = 4294967295 - 2 ^ i from by omega] at this
    rw [this, Nat.testBit_two_pow]
  rw [Nat.testBit_and, e2]
  simp only [Nat.testBit_shiftLeft, Nat.testBit_shiftRight]
  by_cases h1 : i = j
  · subst h1; simp; intro h; omega
  · by_cases h2 : i ≤ j
    · have h3 : i + 1 ≤ j := by omega
      have a1 : i + (j - i) = j := by omega
      have a2 : i + 1 + (j - (i + 1)) = j := by omega
      simp [h1, h2, h3, a1, a2]
      intro hb
      by_cases h4 : j < 32
      · exact h4
      · have : n.testBit j = false := Nat.testBit_lt_two_pow (Nat.lt_of_lt_of_le hn (by rw [show 4294967296 = 2 ^ 32 from rfl]; exact Nat.pow_le_pow_right (by omega) (by omega)))
        rw [this] at hb; cases hb
    · have h3 : ¬ i + 1 ≤ j := by omega
      simp [h2, h3]
theorem up_step (n : Int) (i : Nat) (hn : 0 ≤ n ∧ n ≤ 4294967295) (hi : i < 32) : bits .andNot .u32 (n / 2 ^ i * 2 ^ i) (2 ^ i) = n / 2 ^ (i + 1) * 2 ^ (i + 1) := by
  obtain ⟨m, rfl⟩ := Int.eq_ofNat_of_zero_le hn.1
  have h1 : m / 2 ^ i * 2 ^ i ≤ m := Nat.div_mul_le_self m _
  have h2 : 2 ^ i < 2 ^ 32 := Nat.pow_lt_pow_right (by omega) hi
  have e1 : ((m : Int) / 2 ^ i * 2 ^ i) = ((m / 2 ^ i * 2 ^ i : Nat) : Int) := by simp
  have e2 : ((2 : Int) ^ i) = ((2 ^ i : Nat) : Int) := by simp
  rw [e1, e2, u32_andNot_nat _ _ (by omega) (by omega), nat_clear m i (by omega) hi]
  simp

theorem pow_low (p : Nat) (h : p < 32) : (2 : Int) ^ p % 4294967296 = 2 ^ p := by
  have h2 : 2 ^ p < 4294967296 := Nat.pow_lt_pow_right (a := 2) (by omega) h
  have e : ((2 : Int) ^ p) = ((2 ^ p : Nat) : Int) := by simp
  rw [e]
  exact Int.emod_eq_of_lt (Int.natCast_nonneg _) (Int.ofNat_lt.2 h2)

end Go.Proofs.Ytgjemeibaghfaab