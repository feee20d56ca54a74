/- The walk of the law WireBack. -/
import Derived.Test.YtiigmhddnaocoabW7
namespace Go.Proofs.Ytiigmhddnaocoab
open Go.RowKit

set_option maxHeartbeats 2000000 in
theorem walk_WireBack (w : World) (sv : Value) (zs : List Int) (hB : Mt.By zs) (hI : Rd w.heap.size w sv zs) (at_ : Int) (hat : 0 ≤ at_ ∧ at_ ≤ 65535) (v : Int) (hv : 0 ≤ v ∧ v ≤ 4294967295) :
    Calls Try.prog 4 #[sv, .int .u16 at_, .int .u32 v] w fun e w' => e = .returned (.bool true) ∧ Below w.heap.size w w' := by
  obtain ⟨a, cap, rfl, hl, hm⟩ := hI.slice
  have HF := hide (few_rd _ zs w hI)
  obtain ⟨hB2, hl3⟩ := take5 zs hB
  generalize zs.take 5000 = ys at *
  generalize zs.length = len at *
  clear hI hB
  by_cases h4 : ys.length < 4
  · have t1 : (ys.length : Int) < 4 := by omega
    go_enter Try.func4, Try.ntmps4
    go_wp2_with fail
    refine (unhide HF).mono ?_
    rintro e w1 ⟨a1, cap1, rfl, hI2, rfl⟩
    clear HF
    go_wp2_with fail
    refine (live_any _).mono ?_
    rintro e w2 ⟨rfl, hb2⟩
    have hI3 := (hI2.below hb2).mono hb2.size
    go_wp2_with fail
    refine (put32_any _ ys at_ v _ (by omega) hI3 hv).mono ?_
    rintro e w3 ⟨a3, rfl, hO3, hb3⟩
    go_wp2
    go_ret
    exact ⟨rfl, hb2.trans (hb3.mono hb2.size)⟩
  · have t1 : ¬ (ys.length : Int) < 4 := by omega
    have hm0 := Int.emod_nonneg at_ (b := (ys.length : Int) - 3) (by omega)
    have hm1 := Int.emod_lt_of_pos at_ (b := (ys.length : Int) - 3) (by omega)
    obtain ⟨r, hr⟩ := Int.eq_ofNat_of_zero_le hm0
    rw [hr] at hm1
    clear hm0
    have hk : r + 3 < ys.length := by omega
    go_enter Try.func4, Try.ntmps4
    go_wp2_with fail
    refine (unhide HF).mono ?_
    rintro e w1 ⟨a1, cap1, rfl, hI2, rfl⟩
    clear HF
    go_wp2_with fail
    refine (put32_any _ ys _ v _ (by omega) hI2 hv).mono ?_
    rintro e w2 ⟨a2, rfl, hO2, hb2⟩
    rw [putAt4_nat ys r v hk] at hO2
    have hBz := By_put4 hB2 r hv
    have hlz := put4_length ys r v
    have hoth : ∀ j, j < r ∨ r + 4 ≤ j → (put4 ys r v)[j]?.getD 0 = ys[j]?.getD 0 := fun j h => by rw [put4_other ys r j v h]
    have HG := hide (wat4_put4 ys r v hk hv.1)
    have HG2 := hide (wat_put4 ys r v hk hv.1)
    generalize put4 ys r v = z at *
    have hIz := hO2.rd
    obtain ⟨b, off, cap', e', hl1, hm1', hb1, hcb⟩ := hI2.cells (by omega)
    cases e'
    obtain ⟨g, rfl, hle, _, hcf, _⟩ := hO2.at (by omega)
    clear hle
    have hcb2 : ∀ j, j < ys.length → w2.cell? ⟨b, off + j, none⟩ = some (.int .u8 (ys[j]?.getD 0)) := fun j h => (hb2.cell (p := ⟨b, off + j, none⟩) hb1).trans (hcb j h)
    have hcz2 : ∀ j, j < ys.length → w2.cell? ⟨g, j, none⟩ = some (.int .u8 (z[j]?.getD 0)) := fun j h => (hcf j (by omega)).1
    have H1 := hide hcb2
    have H2 := hide hcz2
    have H3 := hide hoth
    clear hcb hcf hcb2 hcz2 hoth
    go_wp2_with fail
    go_loopw [9] (fun i wr => ∃ m : Nat, m ≤ ys.length ∧ i = .int .i64 m ∧ ∃ q, wr = w2.drewN q) (fun i _ => ys.length - (intOf i).toNat)
    case atStart => exact ⟨0, by omega, rfl, 0, rfl⟩
    case round =>
      obtain ⟨m, hm2, rfl, q, rfl⟩ := hrel
      by_cases hlt : m < ys.length
      · have cb := unhide H1 m hlt
        have cz := unhide H2 m hlt
        have hlt' : (m : Int) < ys.length := by omega
        by_cases hin : m < r ∨ r + 4 ≤ m
        · have ho := unhide H3 m hin
          rw [ho] at cz
          generalize ys[m]?.getD 0 = u at cb cz ho
          clear ho hr
          rcases hin with h1 | h1
          · have d1 : (m : Int) < r := by omega
            go_wp2_with fail
            go_quiet (fail)
            go_wp2
            go_roundw
            case rel => exact ⟨m + 1, by omega, by go_num, _, rfl⟩
            case measure => simp [intOf]; omega
          · have d2 : (r : Int) + 4 ≤ m := by omega
            go_wp2_with fail
            have d1' : decide (m < r) = false := by simp; omega
            go_quiet (fail)
            go_wp2
            go_roundw
            case rel => exact ⟨m + 1, by omega, by go_num, _, rfl⟩
            case measure => simp [intOf]; omega
        · have d0 : r ≤ m ∧ m < r + 4 := by omega
          clear hin hr
          go_wp2_with fail
          have d1' : decide (m < r) = false := by simp; omega
          have d2' : decide ((r : Int) + 4 ≤ m) = false := by simp; omega
          go_quiet (fail)
          go_wp2
          go_roundw
          case rel => exact ⟨m + 1, by omega, by go_num, _, rfl⟩
          case measure => simp [intOf]; omega
      · clear hr
        obtain rfl : m = ys.length := by omega
        go_wp2_with fail
        refine (live_any _).mono ?_
        rintro e w3 ⟨rfl, hb3⟩
        have hO3 := (hO2.drew q).below hb3 (Nat.le_refl _)
        have hlt : r + 1 < z.length := by omega
        have hlt3 : r + 3 < z.length := by omega
        have hlt2 : r + 2 + 1 < z.length := by omega
        have hb23 := (below_draw hb2 q).trans (hb3.mono hb2.size)
        clear H1 H2 H3 hlz hIz hO2 hI2
        go_wp2_with fail
        refine (get32_rd _ z hBz r hlt3 _ hO3.rd).mono ?_
        rintro e w4 ⟨rfl, q4, rfl⟩
        rw [HG.out]
        go_wp2_with fail
        refine (get16_rd _ z hBz r hlt _ (hO3.rd.drew q4)).mono ?_
        rintro e w5 ⟨rfl, q5, rfl⟩
        rw [HG2.out.1]
        go_wp2_with fail
        rw [show ((r : Int) + 2) = ((r + 2 : Nat) : Int) from by omega]
        refine (get16_rd _ z hBz (r + 2) hlt2 _ (hO3.rd.drew (q4 + q5))).mono ?_
        rintro e w6 ⟨rfl, q6, rfl⟩
        rw [HG2.out.2]
        have hwr : (v % 65536 == IntKind.u16.wrap v) = true := by rw [IntKind.wrap_u16]; simp
        go_wp2
        go_ret
        exact ⟨rfl, below_draw hb23 _⟩
end Go.Proofs.Ytiigmhddnaocoab
