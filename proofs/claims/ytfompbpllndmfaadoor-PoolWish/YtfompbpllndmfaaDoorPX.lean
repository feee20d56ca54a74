/- The document's pool: how it lies; Has, free. -/
import Derived.Test.YtfompbpllndmfaaDoorPR
namespace Go.Proofs.YtfompbpllndmfaaDoor
open Go.RowKit Go.Shelf
set_option maxRecDepth 100000
set_option linter.unusedVariables false
set_option linter.unusedSimpArgs false

def i64s (l : List Nat) : List Value := l.map (fun (n : Nat) => Value.int .i64 (n : Int))
theorem i64s_snoc (l : List Nat) (x : Nat) : i64s (l ++ [x]) = i64s l ++ [.int .i64 (x : Int)] := by unfold i64s; simp
/-- The document's pool in memory: what is taken, in a row of its own. -/
def DP (base : Nat) (W : World) (rb : Nat) (v : Value) (low high : Nat) (U : List Nat) : Prop :=
  base ≤ rb ∧ W.heap[rb]? = some (.cells #[.int .i64 (low : Int), .int .i64 (high : Int), v] 61 (0, 0)) ∧ W.ownsRow base 3 1 v U.length (i64s U)
theorem DP.later {base : Nat} {A B : World} {rb : Nat} {v : Value} {low high : Nat} {U : List Nat} (h : DP base A rb v low high U) (l : Later A B) : DP base B rb v low high U := ⟨h.1, later_keep l h.2.1, ownsN_ct h.2.2 (CT.of l)⟩
theorem DP.cellsU {base : Nat} {W : World} {rb : Nat} {low high : Nat} {U : List Nat} {sa : Option Addr} {n cap : Nat} (h : DP base W rb (.slice sa n cap) low high U) (hne : 0 < U.length) : ∃ g, sa = some ⟨g, 0, none⟩ ∧ U.length ≤ cap ∧ cap ≤ maxLen ∧ ∀ j, j < U.length → W.cell? ⟨g, j, none⟩ = some (.int .i64 ((U[j]?.getD 0 : Nat) : Int)) := by
  obtain ⟨h1, ⟨e, h0⟩ | ⟨g, cp, cur, e, hg, hh, hl, hm, hs, hc⟩⟩ := h.2.2
  · omega
  · cases e
    refine ⟨g, rfl, hl, hm, fun j hj => ?_⟩
    rw [block_cell hh j]
    have : cur.toList[j]? = (i64s U)[j]? := by rw [← hc, List.getElem?_take_of_lt (by omega)]
    rw [← Array.getElem?_toList, this]
    unfold i64s
    rw [List.getElem?_map, List.getElem?_eq_getElem hj]
    rfl
theorem DP.slice {base : Nat} {W : World} {rb : Nat} {v : Value} {low high : Nat} {U : List Nat} (h : DP base W rb v low high U) : ∃ sa cap, v = .slice sa U.length cap := ownsN_slice h.2.2

set_option maxHeartbeats 2000000 in
theorem rhas8_any (base rb low high : Nat) (v : Value) (U : List Nat) (n : Nat) (w : World) (hT : DP base w rb v low high U) (hn : n < 65536) (hU : U.length ≤ 100000) :
    Calls Tryd.prog 40 #[.pointer (some ⟨rb, 0, none⟩), .int .u16 (n : Int)] w fun e w' => e = .returned (.bool (decide (n ∈ U))) ∧ w' = w := by
  obtain ⟨sa, cap, rfl⟩ := hT.slice
  have HT := hide hT
  have k0 := block_cell hT.2.1
  have hn' : (n : Int) ≤ 65535 := by omega
  have hUi : (U.length : Int) ≤ 100000 := by omega
  clear hT
  go_enter Tryd.func40, Tryd.ntmps40
  go_wp2_with fail
  go_loopw [5] (fun i wr => ∃ q : Nat, q ≤ U.length ∧ i = .int .i64 (q : Int) ∧ wr = w ∧ n ∉ U.take q) (fun i _ => U.length - (intOf i).toNat)
  case atStart => exact ⟨0, by omega, rfl, rfl, by simp⟩
  case round =>
    obtain ⟨q, hq, rfl, rfl, hno⟩ := hrel
    by_cases hql : q < U.length
    · have hql' : (q : Int) < U.length := by omega
      obtain ⟨g, rfl, hc1, hc2, hcs⟩ := HT.out.cellsU (by omega)
      have d1 := hcs q hql
      have hmx : U.take (q + 1) = U.take q ++ [U[q]?.getD 0] := by rw [List.getElem?_eq_getElem hql]; simp
      have hmem : U[q]?.getD 0 ∈ U := by rw [List.getElem?_eq_getElem hql]; exact List.getElem_mem hql
      clear hcs
      generalize U[q]?.getD 0 = y at *
      by_cases hy : y = n
      · subst hy
        have HM : Hid (decide (y ∈ U) = true) := by show _ = _; simpa using hmem
        clear hmx hmem hno
        go_wp2_with fail
        go_ret
        exact ⟨by rw [HM.out]; rfl, rfl⟩
      · have hy' : ¬ (y : Int) = (n : Int) := by omega
        have HM : Hid (n ∉ U.take (q + 1)) := by
          show _ ∉ _
          rw [hmx]
          simp
          exact ⟨hno, fun e => hy e.symm⟩
        clear hmx hmem hno
        go_wp2_with fail
        go_roundw
        case rel => exact ⟨q + 1, by omega, by go_num, by first | trivial | rfl, HM.out⟩
        case measure => simp [intOf]; omega
    · obtain rfl : q = U.length := by omega
      rw [List.take_of_length_le (Nat.le_refl _)] at hno
      have HM : Hid (decide (n ∈ U) = false) := by show _ = _; simpa using hno
      clear hno
      go_wp2_with fail
      go_ret
      exact ⟨by rw [HM.out]; rfl, rfl⟩

/-- Is a number free, by the document? -/
def rfr (low high : Nat) (U : List Nat) (n : Nat) : Bool := decide (low ≤ n) && (decide (n ≤ high) && !decide (n ∈ U))
set_option maxHeartbeats 2000000 in
theorem rfree8_any (base rb low high : Nat) (v : Value) (U : List Nat) (n : Nat) (w : World) (hT : DP base w rb v low high U) (hn : n < 65536) (hU : U.length ≤ 100000) :
    Calls Tryd.prog 37 #[.pointer (some ⟨rb, 0, none⟩), .int .i64 (n : Int)] w fun e w' => e = .returned (.bool (rfr low high U n)) ∧ w' = w := by
  have HH := hide (rhas8_any base rb low high v U n w hT hn hU)
  have k0 := block_cell hT.2.1
  have hn' : (n : Int) ≤ 65535 := by omega
  clear hT
  by_cases h1 : low ≤ n
  · have h1' : (low : Int) ≤ (n : Int) := by omega
    by_cases h2 : n ≤ high
    · have h2' : (n : Int) ≤ (high : Int) := by omega
      have HV : Hid (rfr low high U n = !decide (n ∈ U)) := by show _ = _; unfold rfr; simp [h1, h2]
      generalize decide (n ∈ U) = q at *
      go_enter Tryd.func37, Tryd.ntmps37
      go_wp2_with fail
      refine HH.out.mono ?_
      rintro e w1 ⟨rfl, rfl⟩
      go_wp2_with fail
      go_ret
      exact ⟨by rw [HV.out]; rfl, rfl⟩
    · have h2' : ¬ (n : Int) ≤ (high : Int) := by omega
      have HV : Hid (rfr low high U n = false) := by show _ = _; unfold rfr; simp [h2]
      go_enter Tryd.func37, Tryd.ntmps37
      go_wp2_with fail
      go_ret
      exact ⟨by rw [HV.out]; rfl, rfl⟩
  · have h1' : ¬ (low : Int) ≤ (n : Int) := by omega
    have HV : Hid (rfr low high U n = false) := by show _ = _; unfold rfr; simp [h1]
    go_enter Tryd.func37, Tryd.ntmps37
    go_wp2_with fail
    go_ret
    exact ⟨by rw [HV.out]; rfl, rfl⟩
end Go.Proofs.YtfompbpllndmfaaDoor
