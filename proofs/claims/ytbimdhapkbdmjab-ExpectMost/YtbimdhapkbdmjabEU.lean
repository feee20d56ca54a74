/- The walk of ExpectMost. -/
import Derived.Test.YtbimdhapkbdmjabER
namespace Go.Proofs.Ytbimdhapkbdmjab
open Go.RowKit Go.Shelf
set_option maxRecDepth 100000
set_option linter.unusedVariables false
set_option linter.unusedSimpArgs false

/-- How many below i leave the rest r. -/
def cnf (m i r : Nat) : Nat := ((List.range i).filter (fun j => decide (j % m = r))).length
theorem cnf1 : ∀ m, m < 21 → ∀ i, i < 60 → m = 0 ∨ cnf m i (i % m) = i / m := by decide +kernel
theorem cnf2 : ∀ m, m < 9 → ∀ r, r < m → cnf m (4 * m) r = 4 := by decide +kernel
def mkE (m j : Nat) : Ex := ⟨6, 0, 1, 0, (j : Int) + 1, 2, 3, ((j % m : Nat) : Int), 9⟩
def kpt (m i : Nat) : Nat := min i (min (4 * m) 32)
def mkL (m i : Nat) : List Ex := (List.range (kpt m i)).map (mkE m)
theorem mkL_len (m i : Nat) : (mkL m i).length = kpt m i := by unfold mkL; simp
theorem ownN_mk (m n r : Nat) : ownN (r : Int) ((List.range n).map (mkE m)) = cnf m n r := by
  unfold ownN cnf
  rw [List.filter_map, List.length_map]
  congr 1
  refine List.filter_congr (fun x _ => ?_)
  show decide (((x % m : Nat) : Int) = (r : Int)) = _
  rw [decide_eq_decide]
  omega
theorem adE_mk (m i : Nat) (hm : 1 ≤ m) (hm2 : m ≤ 20) (hi : i < 60) : adE (mkL m i) (mkE m i) = if 32 ≤ kpt m i ∨ 4 ≤ i / m then 9 else 0 := by
  have hr : rtX (mkE m i) = true := by unfold rtX crX mkE; simp; omega
  have hn : (mkL m i).any (alX (mkE m i)) = false := by
    rw [List.any_eq_false]
    intro y hy
    unfold mkL at hy
    obtain ⟨j, hj, rfl⟩ := List.mem_map.1 hy
    have hj' : j < kpt m i := by simpa using hj
    have : j < i := by unfold kpt at hj'; omega
    unfold alX mkE
    simp
    omega
  unfold adE
  rw [hr, hn, if_neg (by simp), if_neg (by simp), mkL_len]
  have hms : (mkE m i).ms = ((i % m : Nat) : Int) := rfl
  rw [hms]
  unfold mkL
  rw [ownN_mk]
  have hmod : i % m < m := Nat.mod_lt _ (by omega)
  by_cases h32 : 32 ≤ kpt m i
  · rw [if_pos (.inl h32), if_pos (.inl h32)]
  · by_cases h4 : 4 * m ≤ i
    · have hk : kpt m i = 4 * m := by unfold kpt at *; omega
      have h9 : m < 9 := by unfold kpt at h32; omega
      rw [hk, cnf2 m h9 _ hmod]
      have hd : 4 ≤ i / m := (Nat.le_div_iff_mul_le (by omega)).2 (by omega)
      rw [if_pos (.inr (by omega)), if_pos (.inr hd)]
    · have hk : kpt m i = i := by unfold kpt at *; omega
      have h1 := (cnf1 m (by omega) i hi).resolve_left (by omega)
      have hd : i / m < 4 := (Nat.div_lt_iff_lt_mul (by omega)).2 (by omega)
      rw [hk, h1]
theorem adL_mk (m i : Nat) (hm : 1 ≤ m) (hm2 : m ≤ 20) (hi : i < 60) : adL (mkL m i) (mkE m i) = mkL m (i + 1) ∧ kpt m (i + 1) = if 32 ≤ kpt m i ∨ 4 ≤ i / m then kpt m i else kpt m i + 1 := by
  have he := adE_mk m i hm hm2 hi
  by_cases hc : 32 ≤ kpt m i ∨ 4 ≤ i / m
  · rw [if_pos hc] at he ⊢
    have hk : kpt m (i + 1) = kpt m i := by
      unfold kpt at *
      rcases hc with h | h
      · omega
      · have := (Nat.le_div_iff_mul_le (show 0 < m by omega)).1 h
        omega
    exact ⟨by rw [adL_no (by rw [he]; omega)]; unfold mkL; rw [hk], hk⟩
  · rw [if_neg hc] at he ⊢
    have h4 : ¬ 4 * m ≤ i := fun h => hc (.inr ((Nat.le_div_iff_mul_le (by omega)).2 (by omega)))
    have hk0 : kpt m i = i := by unfold kpt at *; omega
    have hk : kpt m (i + 1) = kpt m i + 1 := by unfold kpt at *; omega
    refine ⟨?_, hk⟩
    rw [adL_yes he]
    unfold mkL
    rw [hk, List.range_succ, List.map_append, hk0]
    rfl

set_option maxHeartbeats 8000000 in
theorem walk_ExpectMost (w : World) (n : Int) (hn : 0 ≤ n ∧ n ≤ 255) (ms : Int) (hms : 0 ≤ ms ∧ ms ≤ 255) :
    Calls Try.prog 4 #[.int .u8 n, .int .u8 ms] w fun e w' => e = .returned (.bool true) ∧ Below w.heap.size w w' := by
  obtain ⟨K, hK⟩ : ∃ r : Nat, n % 60 = (r : Int) := ⟨(n % 60).toNat, by omega⟩
  have hKt : n.tmod 60 = (K : Int) := by rw [Int.tmod_eq_emod_of_nonneg hn.1]; exact hK
  have hK6 : K < 60 := by omega
  obtain ⟨m0, hM⟩ : ∃ r : Nat, ms % 20 = (r : Int) := ⟨(ms % 20).toNat, by omega⟩
  have hMt : ms.tmod 20 = (m0 : Int) := by rw [Int.tmod_eq_emod_of_nonneg hms.1]; exact hM
  have hM2 : m0 < 20 := by omega
  have hM3 : (m0 : Int) ≤ 19 := by omega
  have hK7 : (K : Int) ≤ 59 := by omega
  clear hK hM
  go_enter Try.func4, Try.ntmps4
  go_wp2_with fail
  refine (new12_any w).mono ?_
  rintro e w1 ⟨rfl, l1, hT1⟩
  generalize hb : w.heap.size = b at *
  have HB := hide hb
  clear hb
  go_upto_region 4 with fail
  obtain ⟨m, hmm⟩ : ∃ m : Nat, (m0 : Int) + 1 = (m : Int) := ⟨m0 + 1, by omega⟩
  rw [hmm]
  have hm1 : 1 ≤ m := by omega
  have hm2 : m ≤ 20 := by omega
  have hm3 : ¬ (m : Int) = 0 := by omega
  have hm4 : (m : Int) ≤ 20 := by omega
  clear hmm hM2 hM3 hMt hKt
  go_wp2_with fail
  go_loopw [8, 9] (fun kv iv wr => ∃ i : Nat, i ≤ K ∧ iv = .int .i64 (i : Int) ∧ kv = .int .i64 (kpt m i : Int) ∧ (∃ v, BL 48 b wr b v (mkL m i)) ∧ Below b w1 wr) (fun _ iv _ => K - (intOf iv).toNat)
  case atStart => exact ⟨0, by omega, rfl, by unfold kpt; simp, ⟨_, hT1⟩, Below.refl _ _⟩
  case round =>
    obtain ⟨i, hi, rfl, rfl, ⟨v, hT⟩, hbw⟩ := hrel
    have hb1 : b < w1.heap.size := hT1.blt
    have hsz := hbw.size
    have hk32 : kpt m i ≤ 32 := by unfold kpt; omega
    by_cases hik : i < K
    · have hik' : (i : Int) < (K : Int) := by omega
      have htm : (i : Int).tmod (m : Int) = ((i % m : Nat) : Int) := by rw [Int.tmod_eq_emod_of_nonneg (by omega)]; omega
      have htd : (i : Int).tdiv (m : Int) = ((i / m : Nat) : Int) := by rw [Int.tdiv_eq_ediv_of_nonneg (by omega)]; omega
      have hAD := add12_any b b v (mkL m i) (mkE m i) wr hT (by rw [mkL_len]; omega) (by omega)
      obtain ⟨hal, hkn⟩ := adL_mk m i hm1 hm2 (by omega)
      rw [adE_mk m i hm1 hm2 (by omega), hal] at hAD
      have hml : (i % m : Nat) < m := Nat.mod_lt _ (by omega)
      have hdl : i / m ≤ i := Nat.div_le_self _ _
      have HAD := hide hAD
      have HKN := hide hkn
      clear hAD hal hkn
      unfold exc mkE at HAD
      simp only at HAD
      generalize i % m = rm at *
      generalize i / m = dm at *
      generalize hkp : kpt m i = kp at *
      have HKP := hide hkp
      clear hkp
      have i1 : (i : Int) + 1 ≤ 60 := by omega
      have i2 : (kp : Int) ≤ 32 := by omega
      have i3 : (dm : Int) ≤ 60 := by omega
      by_cases hc1 : 32 ≤ kp
      · have hc1' : (32 : Int) ≤ (kp : Int) := by omega
        rw [if_pos (.inl hc1)] at HAD HKN
        go_wp2_with fail
        refine HAD.out.mono ?_
        rintro e w3 ⟨rfl, v3, hT3, hb3, _⟩
        have hbw3 : Below b w1 w3 := hbw.trans (hb3.below (by omega) (fun k hk e => by rcases e with e | e; (· omega); (· have := (hT.lt e).1; omega)))
        go_wp2_with fail
        go_roundw
        case rel => exact ⟨i + 1, by omega, by go_num, by rw [HKN.out], ⟨v3, hT3⟩, hbw3⟩
        case measure => simp [intOf]; omega
      · have hc1' : ¬ (32 : Int) ≤ (kp : Int) := by omega
        by_cases hc2 : 4 ≤ dm
        · have hc2' : (4 : Int) ≤ (dm : Int) := by omega
          rw [if_pos (.inr hc2)] at HAD HKN
          go_wp2_with fail
          refine HAD.out.mono ?_
          rintro e w3 ⟨rfl, v3, hT3, hb3, _⟩
          have hbw3 : Below b w1 w3 := hbw.trans (hb3.below (by omega) (fun k hk e => by rcases e with e | e; (· omega); (· have := (hT.lt e).1; omega)))
          go_wp2_with fail
          go_roundw
          case rel => exact ⟨i + 1, by omega, by go_num, by rw [HKN.out], ⟨v3, hT3⟩, hbw3⟩
          case measure => simp [intOf]; omega
        · have hc2' : ¬ (4 : Int) ≤ (dm : Int) := by omega
          rw [if_neg (by omega)] at HAD HKN
          go_wp2_with fail
          refine HAD.out.mono ?_
          rintro e w3 ⟨rfl, v3, hT3, hb3, _⟩
          have hbw3 : Below b w1 w3 := hbw.trans (hb3.below (by omega) (fun k hk e => by rcases e with e | e; (· omega); (· have := (hT.lt e).1; omega)))
          go_wp2_with fail
          rotate_left
          · exfalso
            rename_i hx
            rcases hx with hx | hx <;> (simp at hx; omega)
          go_roundw
          case rel => exact ⟨i + 1, by omega, by go_num, by rw [HKN.out]; go_num, ⟨v3, hT3⟩, hbw3⟩
          case measure => simp [intOf]; omega
    · have hik' : ¬ (i : Int) < (K : Int) := by omega
      have hlen := mkL_len m i
      have hbw' : Below b w wr := Below.trans (by have := HB.out; rw [← this]; exact l1) hbw
      generalize mkL m i = l at *
      generalize kpt m i = kp at *
      subst hlen
      go_wp2_with fail
      refine (live12_any wr).mono ?_
      rintro e w3 ⟨rfl, l3⟩
      have hbw3 : Below b w w3 := hbw'.trans (l3.mono (by omega))
      go_wp2_with fail
      refine (list12_any b b v l w3 (hT.later l3) (by omega)).mono ?_
      rintro e w4 ⟨l4, u, rfl, hu⟩
      obtain ⟨su, cu, rfl⟩ := ownE_slice hu
      have hs3 : wr.heap.size ≤ w3.heap.size := l3.size
      go_wp2_with fail
      go_ret
      exact ⟨by first | rfl | (simp; done), by rw [HB.out]; exact hbw3.trans (l4.mono (by omega))⟩
end Go.Proofs.Ytbimdhapkbdmjab
