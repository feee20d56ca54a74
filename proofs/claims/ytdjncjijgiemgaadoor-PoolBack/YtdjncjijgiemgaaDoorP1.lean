/- The document's pool: Take and Pair. -/
import Derived.Test.YtdjncjijgiemgaaDoorP0
namespace Go.Proofs.YtdjncjijgiemgaaDoor
open Go.RowKit Go.Shelf
set_option maxRecDepth 100000
set_option linter.unusedVariables false
set_option linter.unusedSimpArgs false

/-- Which number the document gives out; 0: none. -/
def rtn (low high : Nat) (U : List Nat) (two : Bool) (wish : Nat) : Nat := if rok low high U two wish = true then wish else lst low high U two
theorem rok_range {low high : Nat} {U : List Nat} {two : Bool} {n : Nat} (h : rok low high U two n = true) : low ≤ n ∧ n ≤ high ∧ n ∉ U ∧ (two = true → n % 2 = 0 ∧ n + 1 ≤ high ∧ n + 1 ∉ U) := by
  unfold rok rfr at h
  cases two with
  | false => simp at h; exact ⟨h.1, h.2.1, h.2.2, fun e => by cases e⟩
  | true => simp at h; exact ⟨h.1.1, h.1.2.1, h.1.2.2, fun _ => ⟨h.2.1, h.2.2.2.1, h.2.2.2.2⟩⟩
theorem lst_rok {low high : Nat} {U : List Nat} {two : Bool} (h : lst low high U two ≠ 0) : rok low high U two (lst low high U two) = true := by
  unfold lst at h ⊢
  cases hL : (nums low high).filter (rok low high U two) with
  | nil => rw [hL] at h; exact absurd rfl h
  | cons x L =>
    have : x ∈ (nums low high).filter (rok low high U two) := by rw [hL]; simp
    simpa using (List.mem_filter.1 this).2
theorem rtn_rok {low high : Nat} {U : List Nat} {two : Bool} {wish : Nat} (h : rtn low high U two wish ≠ 0) : rok low high U two (rtn low high U two wish) = true := by
  unfold rtn at h ⊢
  split
  · assumption
  · rename_i hn
    rw [if_neg hn] at h
    exact lst_rok h

/-- How the document's Take and Pair end. -/
def rtP (base : Nat) (w : World) (rb low high : Nat) (v : Value) (U U' : List Nat) (n : Nat) (e : Ending) (w' : World) : Prop :=
  (n = 0 ∧ e = .returned (.tuple #[.int .u16 0, .int .i64 9]) ∧ w' = w) ∨ (n ≠ 0 ∧ e = .returned (.tuple #[.int .u16 (n : Int), .int .i64 0]) ∧ (∃ v', DP base w' rb v' low high U') ∧ But (fun g => g = rb) w w')

set_option maxHeartbeats 4000000 in
theorem rTake8_any (base rb low high : Nat) (v : Value) (U : List Nat) (wish : Nat) (hl : 1 ≤ low) (hlh : low ≤ high) (hh : high < 65536) (w : World) (hT : DP base w rb v low high U) (hw : wish < 65536) (hU : U.length ≤ 90000) :
    Calls Tryd.prog 31 #[.pointer (some ⟨rb, 0, none⟩), .int .u16 (wish : Int)] w (rtP base w rb low high v U (insU (rtn low high U false wish) U) (rtn low high U false wish)) := by
  have HF := hide (rfree8_any base rb low high v U wish w hT hw (by omega))
  have HL := hide (rleast8_any base rb low high v U false hlh hh w hT (by omega))
  have HT := hide (fun n hn => rtake8_any base rb low high v U n w hT hn (by omega))
  have hro : rok low high U false wish = rfr low high U wish := by unfold rok; simp
  have hw' : (wish : Int) ≤ 65535 := by omega
  clear hT
  cases hf : rfr low high U wish with
  | true =>
    rw [hf] at HF hro
    have hrt : rtn low high U false wish = wish := by unfold rtn; rw [if_pos hro]
    have hpos := rok_range hro
    have hw1 : ¬ (wish : Int) = 0 := by omega
    have HW1 : Hid (wish ≠ 0) := by show _ ≠ _; omega
    rw [hrt]
    have HTW := hide (HT.out wish hw)
    clear hf hro hrt hpos HT HL
    go_enter Tryd.func31, Tryd.ntmps31
    go_wp2_with fail
    refine HF.out.mono ?_
    rintro e w1 ⟨rfl, rfl⟩
    go_wp2_with fail
    refine HTW.out.mono ?_
    rintro e w2 ⟨⟨u, rfl⟩, hD, hb⟩
    go_wp2_with fail
    refine bodyPost_ret (v := .tuple #[.int .u16 (wish : Int), .int .i64 0]) (by simp [results, Tryd.results31, go_sem]) rfl ?_
    exact .inr ⟨HW1.out, rfl, hD, hb⟩
  | false =>
    rw [hf] at HF hro
    have hrt : rtn low high U false wish = lst low high U false := by unfold rtn; rw [if_neg (by rw [hro]; simp)]
    rw [hrt]
    have hlr := @lst_rok low high U false
    have hlb : lst low high U false ≠ 0 → lst low high U false < 65536 := fun h => by have := rok_range (hlr h); omega
    clear hf hro hrt hlr
    generalize lst low high U false = n at *
    by_cases hn : n = 0
    · subst hn
      clear hlb HT
      go_enter Tryd.func31, Tryd.ntmps31
      go_wp2_with fail
      refine HF.out.mono ?_
      rintro e w1 ⟨rfl, rfl⟩
      go_wp2_with fail
      refine HL.out.mono ?_
      rintro e w1 ⟨rfl, rfl⟩
      go_wp2_with fail
      refine bodyPost_ret (v := .tuple #[.int .u16 0, .int .i64 9]) (by simp [results, Tryd.results31, go_sem]) rfl ?_
      exact .inl ⟨rfl, rfl, rfl⟩
    · have hn6 := hlb hn
      have hn1 : ¬ (n : Int) = 0 := by omega
      have hn2 : (n : Int) ≤ 65535 := by omega
      have HTW := hide (HT.out n hn6)
      have HN := hide hn
      clear hlb HT hn
      go_enter Tryd.func31, Tryd.ntmps31
      go_wp2_with fail
      refine HF.out.mono ?_
      rintro e w1 ⟨rfl, rfl⟩
      go_wp2_with fail
      refine HL.out.mono ?_
      rintro e w1 ⟨rfl, rfl⟩
      go_wp2_with fail
      refine HTW.out.mono ?_
      rintro e w2 ⟨⟨u, rfl⟩, hD, hb⟩
      go_wp2_with fail
      refine bodyPost_ret (v := .tuple #[.int .u16 (n : Int), .int .i64 0]) (by simp [results, Tryd.results31, go_sem]) rfl ?_
      exact .inr ⟨HN.out, rfl, hD, hb⟩
end Go.Proofs.YtdjncjijgiemgaaDoor
