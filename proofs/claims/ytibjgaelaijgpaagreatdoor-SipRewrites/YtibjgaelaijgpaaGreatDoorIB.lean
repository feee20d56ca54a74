/- Package sip: what lines, names and letters may be. -/
import Derived.Test.YtibjgaelaijgpaaGreatDoorIA
namespace Go.Proofs.YtibjgaelaijgpaaGreatDoor
open Go.RowKit Go.Shelf
set_option maxRecDepth 100000
set_option linter.unusedVariables false
set_option linter.unusedSimpArgs false

/-- All bytes of a text are such. -/
def allB (p : Int → Bool) (s : ByteArray) : Bool := decide (∀ j, j < s.size → p (bAt s j) = true)
theorem allB_yes {p : Int → Bool} {s : ByteArray} (h : ∀ j, j < s.size → p (bAt s j) = true) : allB p s = true := decide_eq_true h
theorem allB_no {p : Int → Bool} {s : ByteArray} {j : Nat} (hj : j < s.size) (h : p (bAt s j) = false) : allB p s = false := by
  unfold allB
  rw [decide_eq_false_iff_not]
  intro hh
  rw [hh j hj] at h
  cases h
/-- Where the next rune begins: what is passed over is no letter of ASCII. -/
theorem decode_skip (s : ByteArray) (pos : Nat) (h : pos < s.size) : 1 ≤ (Utf8.decode s pos).2 ∧ pos + (Utf8.decode s pos).2 ≤ s.size ∧ (∀ j, pos < j → j < pos + (Utf8.decode s pos).2 → 128 ≤ bAt s j) ∧ (bAt s pos < 128 → Utf8.decode s pos = ((s.get! pos).toNat, 1)) ∧ (128 ≤ bAt s pos → 128 ≤ (Utf8.decode s pos).1) := by
  have e : s[pos]'h = s.get! pos := by simp [ByteArray.get!, getElem!_pos, h]; rfl
  by_cases ha : (s[pos]'h).toNat < 128
  · have hd := decode_ascii s pos h ha
    rw [e] at hd ha
    rw [hd]
    exact ⟨by simp, by simp; omega, fun j h1 h2 => by simp at h2; omega, fun _ => rfl, fun h => by unfold bAt at h; omega⟩
  · rw [e] at ha
    have hb : ∀ k, (s.get! (pos + k)).toNat < 256 := fun k => (s.get! (pos + k)).toNat_lt
    have h0 := hb 0; have h1 := hb 1; have h2 := hb 2; have h3 := hb 3
    refine ⟨?_, ?_, ?_, fun h => by unfold bAt at h; omega, fun _ => ?_⟩
    · simp only [Utf8.decode]
      repeat' split
      all_goals simp_all [Utf8.runeError]
    · simp only [Utf8.decode]
      repeat' split
      all_goals simp_all [Utf8.runeError]
      all_goals omega
    · intro j hj1 hj2
      have hj : j = pos + 1 ∨ j = pos + 2 ∨ j = pos + 3 ∨ pos + 4 ≤ j := by omega
      unfold bAt
      simp only [Utf8.decode] at hj2
      rcases hj with rfl | rfl | rfl | hj
      all_goals (repeat' split at hj2)
      all_goals simp_all
      all_goals omega
    · simp only [Utf8.decode]
      repeat' split
      all_goals simp_all [Utf8.runeError]
      all_goals omega

/-- A letter. -/
def ltC (c : Int) : Bool := (decide (97 ≤ c) && decide (c ≤ 122)) || (decide (65 ≤ c) && decide (c ≤ 90))
theorem isLetter_any (c : Int) (w : World) : Calls Tryz.prog 56 #[.int .i32 c] w fun e w' => e = .returned (.bool (ltC c)) ∧ w' = w := by
  unfold ltC
  go_enter Tryz.func56, Tryz.ntmps56
  by_cases h1 : 97 ≤ c
  · by_cases h2 : c ≤ 122
    · go_wp2_with fail
      go_ret
      exact ⟨by simp [h1, h2], rfl⟩
    · have h3 : 65 ≤ c := by omega
      have h4 : ¬ c ≤ 90 := by omega
      go_wp2_with fail
      go_ret
      exact ⟨by simp [h2, h4], rfl⟩
  · by_cases h3 : 65 ≤ c
    · go_wp2_with fail
      go_ret
      exact ⟨by first | (simp [h1, h3]; done) | (simp [h1, h3]; omega), rfl⟩
    · go_wp2_with fail
      go_ret
      exact ⟨by first | (simp [h1, h3]; done) | (simp [h1, h3]; omega), rfl⟩

/-- No end of a line. -/
def lnC (c : Int) : Bool := !(c == 13 || c == 10)
theorem lnC_hi {c : Int} (h : 128 ≤ c) : lnC c = true := by unfold lnC; simp; omega

set_option maxHeartbeats 4000000 in
theorem rightLine_any (s : ByteArray) (w : World) :
    Calls Tryz.prog 35 #[.string s] w fun e w' => e = .returned (.bool (allB lnC s)) ∧ Later w w' := by
  go_enter Tryz.func35, Tryz.ntmps35
  go_wp2_with fail
  go_loopw [] (fun wr => ∃ pos : Nat, pos ≤ s.size ∧ wr = w.iter s pos ∧ ∀ j, j < pos → lnC (bAt s j) = true) (fun wr => s.size - wr.iterPos w.heap.size)
  case atStart => exact ⟨0, by omega, rfl, fun j hj => by omega⟩
  case round =>
    obtain ⟨pos, hp, rfl, hall⟩ := hrel
    have HA := hide hall
    clear hall
    by_cases hlt : pos < s.size
    · have hnx := run_next_any (P := Tryz.prog) w s pos 0 hlt
      obtain ⟨hd1, hd2, hd3, hd4, hd5⟩ := decode_skip s pos hlt
      have hb := bAt_rng s pos
      generalize hc : Utf8.decode s pos = dc at *
      obtain ⟨c, kk⟩ := dc
      simp only at hnx hd1 hd2 hd3 hd5
      have HL : Hid (lnC (c : Int) = lnC (bAt s pos)) := by
        show _ = _
        by_cases h8 : bAt s pos < 128
        · have := congrArg Prod.fst (hd4 h8)
          simp only at this
          rw [this]
          rfl
        · rw [lnC_hi (by have := hd5 (by omega); omega), lnC_hi (by omega)]
      have HS : Hid (lnC (bAt s pos) = true → ∀ j, j < pos + kk → lnC (bAt s j) = true) := fun h j hj => by
        rcases Nat.lt_trichotomy j pos with h1 | h1 | h1
        · exact HA.out j h1
        · subst h1; exact h
        · exact lnC_hi (hd3 j h1 hj)
      clear hd3 hd4 hd5 hc
      cases hl : lnC (bAt s pos) with
      | false =>
        have HV := hide (allB_no hlt hl)
        have h13 : c = 13 ∨ c = 10 := by
          have := HL.out.trans hl
          unfold lnC at this
          simp at this
          omega
        clear hl HS HL HA
        rcases h13 with rfl | rfl
        · go_wp2_with fail
          go_ret
          exact ⟨by rw [HV.out]; rfl, iter_later _ _ _⟩
        · go_wp2_with fail
          go_ret
          exact ⟨by rw [HV.out]; rfl, iter_later _ _ _⟩
      | true =>
        have HN := hide (HS.out hl)
        have h13 : ((c : Int) == 13) = false ∧ ((c : Int) == 10) = false := by
          have := HL.out.trans hl
          unfold lnC at this
          simpa using this
        obtain ⟨t1, t2⟩ := h13
        clear hl HS HL HA
        go_wp2_with fail
        go_roundw
        case rel => exact ⟨pos + kk, hd2, rfl, HN.out⟩
        case measure => simp; omega
    · have hnx := run_next_end (P := Tryz.prog) w s pos 0 hlt
      have HV : Hid (allB lnC s = true) := allB_yes (fun j hj => HA.out j (by omega))
      clear HA
      go_wp2_with fail
      go_ret
      exact ⟨by rw [HV.out]; rfl, iter_later _ _ _⟩
end Go.Proofs.YtibjgaelaijgpaaGreatDoor
