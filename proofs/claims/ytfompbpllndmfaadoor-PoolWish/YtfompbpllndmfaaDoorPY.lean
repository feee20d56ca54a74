/- The document's pool: least. -/
import Derived.Test.YtfompbpllndmfaaDoorPX
namespace Go.Proofs.YtfompbpllndmfaaDoor
open Go.RowKit Go.Shelf
set_option maxRecDepth 100000
set_option linter.unusedVariables false
set_option linter.unusedSimpArgs false

def rok (low high : Nat) (U : List Nat) (two : Bool) (n : Nat) : Bool := rfr low high U n && (!two || (decide (n % 2 = 0) && rfr low high U (n + 1)))
def lst (low high : Nat) (U : List Nat) (two : Bool) : Nat := ((nums low high).filter (rok low high U two)).head?.getD 0
theorem lst_at {low high : Nat} {U : List Nat} {two : Bool} {n : Nat} (h1 : low ≤ n) (h2 : n ≤ high) (hk : rok low high U two n = true) (hl : ∀ m, low ≤ m → m < n → rok low high U two m = false) : lst low high U two = n := by
  have e : nums low high = nums low high := rfl
  unfold lst nums
  obtain ⟨k, hk2⟩ : ∃ k, high - low + 1 = (n - low) + 1 + k := ⟨high - n, by omega⟩
  rw [hk2, List.range_add, List.range_succ, List.map_append, List.map_append, List.filter_append, List.filter_append]
  have h0 : (List.map (fun i => low + i) (List.range (n - low))).filter (rok low high U two) = [] := List.filter_eq_nil_iff.2 (fun x hx => by
    obtain ⟨i, hi, rfl⟩ := List.mem_map.1 hx
    have : i < n - low := by simpa using hi
    rw [hl (low + i) (by omega) (by omega)]
    simp)
  rw [h0]
  have e2 : low + (n - low) = n := by omega
  simp [e2, hk]
theorem lst_none {low high : Nat} {U : List Nat} {two : Bool} (hlh : low ≤ high) (hl : ∀ m, low ≤ m → m ≤ high → rok low high U two m = false) : lst low high U two = 0 := by
  unfold lst
  rw [List.filter_eq_nil_iff.2 (fun x hx => by
    have := (mem_nums hlh).1 hx
    rw [hl x this.1 this.2]
    simp)]
  rfl

set_option maxHeartbeats 4000000 in
theorem rleast8_any (base rb low high : Nat) (v : Value) (U : List Nat) (two : Bool) (hlh : low ≤ high) (hh : high < 65536) (w : World) (hT : DP base w rb v low high U) (hU : U.length ≤ 100000) :
    Calls Tryd.prog 38 #[.pointer (some ⟨rb, 0, none⟩), .bool two] w fun e w' => e = .returned (.int .i64 (lst low high U two : Nat)) ∧ w' = w := by
  have k0 := block_cell hT.2.1
  have HF := hide (fun n (hn : n < 65536) => rfree8_any base rb low high v U n w hT hn hU)
  have HA := hide (fun n (h1 : low ≤ n) (h2 : n ≤ high) => @lst_at low high U two n h1 h2)
  have HN := hide (@lst_none low high U two hlh)
  have hh' : (high : Int) ≤ 65535 := by omega
  clear hT
  go_enter Tryd.func38, Tryd.ntmps38
  go_wp2_with fail
  go_loopw [5] (fun i wr => ∃ n : Nat, low ≤ n ∧ n ≤ high + 1 ∧ i = .int .i64 (n : Int) ∧ wr = w ∧ ∀ m, low ≤ m → m < n → rok low high U two m = false) (fun i _ => high + 1 - (intOf i).toNat)
  case atStart => exact ⟨low, by omega, by omega, rfl, rfl, fun m h1 h2 => by omega⟩
  case round =>
    obtain ⟨n, hn1, hn2, rfl, rfl, hno⟩ := hrel
    have HNO := hide hno
    clear hno
    by_cases hle : n ≤ high
    · have hle' : (n : Int) ≤ (high : Int) := by omega
      have HF1 := hide (HF.out n (by omega))
      cases hf : rfr low high U n with
      | false =>
        rw [hf] at HF1
        have HK : Hid (rok low high U two n = false) := by show _ = _; unfold rok; simp [hf]
        clear hf
        go_wp2_with fail
        refine HF1.out.mono ?_
        rintro e w1 ⟨rfl, rfl⟩
        go_wp2_with fail
        go_roundw
        case rel => exact ⟨n + 1, by omega, by omega, by go_num, by first | trivial | rfl, fun m h1 h2 => by
          by_cases e : m = n
          · subst e; exact HK.out
          · exact HNO.out m h1 (by omega)⟩
        case measure => simp [intOf]; omega
      | true =>
        rw [hf] at HF1
        cases two with
        | false =>
          have HK : Hid (rok low high U false n = true) := by show _ = _; unfold rok; simp [hf]
          clear hf
          have HL := hide (HA.out n hn1 hle HK.out HNO.out)
          go_wp2_with fail
          refine HF1.out.mono ?_
          rintro e w1 ⟨rfl, rfl⟩
          go_wp2_with fail
          go_ret
          exact ⟨by rw [HL.out]; rfl, rfl⟩
        | true =>
          by_cases h2 : n % 2 = 0
          · have h2' : (n : Int) % 2 = 0 := by omega
            have HF2 := hide (HF.out (n + 1) (by omega))
            rw [show ((n + 1 : Nat) : Int) = (n : Int) + 1 from by omega] at HF2
            cases hf2 : rfr low high U (n + 1) with
            | false =>
              rw [hf2] at HF2
              have HK : Hid (rok low high U true n = false) := by show _ = _; unfold rok; simp [hf2]
              clear hf hf2 h2
              go_wp2_with fail
              refine HF1.out.mono ?_
              rintro e w1 ⟨rfl, rfl⟩
              go_wp2_with fail
              refine HF2.out.mono ?_
              rintro e w1 ⟨rfl, rfl⟩
              go_wp2_with fail
              go_roundw
              case rel => exact ⟨n + 1, by omega, by omega, by go_num, by first | trivial | rfl, fun m h1 h2 => by
                by_cases e : m = n
                · subst e; exact HK.out
                · exact HNO.out m h1 (by omega)⟩
              case measure => simp [intOf]; omega
            | true =>
              rw [hf2] at HF2
              have HK : Hid (rok low high U true n = true) := by show _ = _; unfold rok; simp [hf, hf2, h2]
              have HL := hide (HA.out n hn1 hle HK.out HNO.out)
              clear hf hf2 h2
              go_wp2_with fail
              refine HF1.out.mono ?_
              rintro e w1 ⟨rfl, rfl⟩
              go_wp2_with fail
              refine HF2.out.mono ?_
              rintro e w1 ⟨rfl, rfl⟩
              go_wp2_with fail
              go_ret
              exact ⟨by rw [HL.out]; rfl, rfl⟩
          · have h2' : ¬ (n : Int) % 2 = 0 := by omega
            have HK : Hid (rok low high U true n = false) := by show _ = _; unfold rok; simp [h2]
            clear hf h2
            go_wp2_with fail
            refine HF1.out.mono ?_
            rintro e w1 ⟨rfl, rfl⟩
            go_wp2_with fail
            go_roundw
            case rel => exact ⟨n + 1, by omega, by omega, by go_num, by first | trivial | rfl, fun m h1 h2 => by
              by_cases e : m = n
              · subst e; exact HK.out
              · exact HNO.out m h1 (by omega)⟩
            case measure => simp [intOf]; omega
    · have hle' : ¬ (n : Int) ≤ (high : Int) := by omega
      have HL := hide (HN.out (fun m h1 h2 => HNO.out m h1 (by omega)))
      go_wp2_with fail
      go_ret
      exact ⟨by rw [HL.out]; rfl, rfl⟩
end Go.Proofs.YtfompbpllndmfaaDoor
