/- Package sip: names, values, numbers. -/
import Derived.Test.YtibjgaelaijgpaaGreatDoorIB
namespace Go.Proofs.YtibjgaelaijgpaaGreatDoor
open Go.RowKit Go.Shelf
set_option maxRecDepth 100000
set_option linter.unusedVariables false
set_option linter.unusedSimpArgs false

/-- A letter, a digit, or a dash. -/
def nmC (c : Int) : Bool := ltC c || (dgt c || c == 45)
theorem ltC_hi {c : Int} (h : 128 ≤ c) : ltC c = false := by unfold ltC; simp; omega
theorem dgt_hi {c : Int} (h : 128 ≤ c) : dgt c = false := by unfold dgt; simp; omega
theorem nmC_hi {c : Int} (h : 128 ≤ c) : nmC c = false := by unfold nmC; rw [ltC_hi h, dgt_hi h]; simp; omega
/-- Such bytes, and not none. -/
def allN (p : Int → Bool) (s : ByteArray) : Bool := allB p s && !(s.size == 0)
theorem str_ne {s : ByteArray} (h : s.size ≠ 0) : s.toList.isEmpty = false := by
  rw [ByteArray.toList_eq]
  cases hl : s.data.toList with
  | nil => exact absurd (by show s.data.size = 0; rw [← Array.length_toList, hl]; rfl) h
  | cons _ _ => rfl

set_option maxHeartbeats 4000000 in
theorem letters_any (s : ByteArray) (w : World) :
    Calls Tryz.prog 83 #[.string s] w fun e w' => e = .returned (.bool (allN ltC s)) ∧ Later w w' := by
  go_enter Tryz.func83, Tryz.ntmps83
  go_wp2_with fail
  go_loopw [] (fun wr => ∃ pos : Nat, pos ≤ s.size ∧ wr = w.iter s pos ∧ ∀ j, j < pos → ltC (bAt s j) = true) (fun wr => s.size - wr.iterPos w.heap.size)
  case atStart => exact ⟨0, by omega, rfl, fun j hj => by omega⟩
  case round =>
    obtain ⟨pos, hp, rfl, hall⟩ := hrel
    have HA := hide hall
    clear hall
    by_cases hlt : pos < s.size
    · have hnx := run_next_any (P := Tryz.prog) w s pos 0 hlt
      obtain ⟨hd1, hd2, hd3, hd4, hd5⟩ := decode_skip s pos hlt
      have hb := bAt_rng s pos
      generalize hc : Utf8.decode s pos = dc at *
      obtain ⟨c, kk⟩ := dc
      simp only at hnx hd1 hd2 hd3 hd5
      have HL : Hid (ltC (c : Int) = ltC (bAt s pos)) := by
        show _ = _
        by_cases h8 : bAt s pos < 128
        · have := congrArg Prod.fst (hd4 h8)
          simp only at this
          rw [this]
          rfl
        · rw [ltC_hi (by have := hd5 (by omega); omega), ltC_hi (by omega)]
      have HS : Hid (ltC (bAt s pos) = true → ∀ j, j < pos + kk → ltC (bAt s j) = true) := fun h j hj => by
        have h8 : bAt s pos < 128 := by
          by_cases h8 : bAt s pos < 128
          · exact h8
          · rw [ltC_hi (by omega)] at h; cases h
        have hk := congrArg Prod.snd (hd4 h8)
        simp only at hk
        rcases Nat.lt_trichotomy j pos with h1 | h1 | h1
        · exact HA.out j h1
        · subst h1; exact h
        · omega
      clear hd3 hd4 hd5 hc
      cases hl : ltC (bAt s pos) with
      | false =>
        have HV : Hid (allN ltC s = false) := by show _ = _; unfold allN; rw [allB_no hlt hl]; rfl
        have hpc := HL.out.trans hl
        clear hl HS HL HA
        go_wp2_with fail
        refine (isLetter_any (c : Int) _).mono ?_
        rw [hpc]
        rintro e w1 ⟨rfl, rfl⟩
        go_wp2_with fail
        go_ret
        exact ⟨by rw [HV.out]; rfl, iter_later _ _ _⟩
      | true =>
        have HN := hide (HS.out hl)
        have hpc := HL.out.trans hl
        clear hl HS HL HA
        go_wp2_with fail
        refine (isLetter_any (c : Int) _).mono ?_
        rw [hpc]
        rintro e w1 ⟨rfl, rfl⟩
        go_wp2_with fail
        go_roundw
        case rel => exact ⟨pos + kk, hd2, rfl, HN.out⟩
        case measure => simp; omega
    · have hnx := run_next_end (P := Tryz.prog) w s pos 0 hlt
      have HB : Hid (allB ltC s = true) := allB_yes (fun j hj => HA.out j (by omega))
      clear HA
      by_cases hs0 : s.size = 0
      · have HV : Hid (allN ltC s = false) := by show _ = _; unfold allN; rw [hs0]; simp
        obtain rfl := str_empty s hs0
        go_wp2_with fail
        go_ret
        exact ⟨by rw [HV.out]; rfl, iter_later _ _ _⟩
      · have HV : Hid (allN ltC s = true) := by show _ = _; unfold allN; rw [HB.out]; simp [hs0]
        have hne := str_ne hs0
        go_wp2_with fail
        go_ret
        exact ⟨by rw [HV.out]; rfl, iter_later _ _ _⟩

set_option maxHeartbeats 4000000 in
theorem rightName_any (s : ByteArray) (w : World) :
    Calls Tryz.prog 47 #[.string s] w fun e w' => e = .returned (.bool (allN nmC s)) ∧ Later w w' := by
  go_enter Tryz.func47, Tryz.ntmps47
  go_wp2_with fail
  go_loopw [] (fun wr => ∃ pos : Nat, pos ≤ s.size ∧ wr = w.iter s pos ∧ ∀ j, j < pos → nmC (bAt s j) = true) (fun wr => s.size - wr.iterPos w.heap.size)
  case atStart => exact ⟨0, by omega, rfl, fun j hj => by omega⟩
  case round =>
    obtain ⟨pos, hp, rfl, hall⟩ := hrel
    have HA := hide hall
    clear hall
    by_cases hlt : pos < s.size
    · have hnx := run_next_any (P := Tryz.prog) w s pos 0 hlt
      obtain ⟨hd1, hd2, hd3, hd4, hd5⟩ := decode_skip s pos hlt
      have hb := bAt_rng s pos
      generalize hc : Utf8.decode s pos = dc at *
      obtain ⟨c, kk⟩ := dc
      simp only at hnx hd1 hd2 hd3 hd5
      have HL : Hid (nmC (c : Int) = nmC (bAt s pos)) := by
        show _ = _
        by_cases h8 : bAt s pos < 128
        · have := congrArg Prod.fst (hd4 h8)
          simp only at this
          rw [this]
          rfl
        · rw [nmC_hi (by have := hd5 (by omega); omega), nmC_hi (by omega)]
      have HS : Hid (nmC (bAt s pos) = true → ∀ j, j < pos + kk → nmC (bAt s j) = true) := fun h j hj => by
        have h8 : bAt s pos < 128 := by
          by_cases h8 : bAt s pos < 128
          · exact h8
          · rw [nmC_hi (by omega)] at h; cases h
        have hk := congrArg Prod.snd (hd4 h8)
        simp only at hk
        rcases Nat.lt_trichotomy j pos with h1 | h1 | h1
        · exact HA.out j h1
        · subst h1; exact h
        · omega
      clear hd3 hd4 hd5 hc
      cases hl : nmC (bAt s pos) with
      | false =>
        have HV : Hid (allN nmC s = false) := by show _ = _; unfold allN; rw [allB_no hlt hl]; rfl
        have hpc := HL.out.trans hl
        clear hl HS HL HA
        have hp1 : ltC (c : Int) = false ∧ dgt (c : Int) = false ∧ ((c : Int) != 45) = true := by
          unfold nmC at hpc
          simp at hpc
          simpa using hpc
        obtain ⟨q1, q2, q3⟩ := hp1
        clear hpc
        go_wp2_with fail
        refine (isLetter_any (c : Int) _).mono ?_
        rw [q1]
        rintro e w1 ⟨rfl, rfl⟩
        go_wp2_with fail
        refine (isDigit_any (c : Int) _).mono ?_
        rw [q2]
        rintro e w1 ⟨rfl, rfl⟩
        go_wp2_with fail
        go_ret
        exact ⟨by rw [HV.out]; rfl, iter_later _ _ _⟩
      | true =>
        have HN := hide (HS.out hl)
        have hpc := HL.out.trans hl
        clear hl HS HL HA
        cases q1 : ltC (c : Int) with
        | true =>
          clear hpc
          go_wp2_with fail
          refine (isLetter_any (c : Int) _).mono ?_
          rw [q1]
          rintro e w1 ⟨rfl, rfl⟩
          go_wp2_with fail
          go_roundw
          case rel => exact ⟨pos + kk, hd2, rfl, HN.out⟩
          case measure => simp; omega
        | false =>
          cases q2 : dgt (c : Int) with
          | true =>
            clear hpc
            go_wp2_with fail
            refine (isLetter_any (c : Int) _).mono ?_
            rw [q1]
            rintro e w1 ⟨rfl, rfl⟩
            go_wp2_with fail
            refine (isDigit_any (c : Int) _).mono ?_
            rw [q2]
            rintro e w1 ⟨rfl, rfl⟩
            go_wp2_with fail
            go_roundw
            case rel => exact ⟨pos + kk, hd2, rfl, HN.out⟩
            case measure => simp; omega
          | false =>
            have q3 : ((c : Int) != 45) = false := by
              unfold nmC at hpc
              rw [q1, q2] at hpc
              simp at hpc
              simp [hpc]
            clear hpc
            go_wp2_with fail
            refine (isLetter_any (c : Int) _).mono ?_
            rw [q1]
            rintro e w1 ⟨rfl, rfl⟩
            go_wp2_with fail
            refine (isDigit_any (c : Int) _).mono ?_
            rw [q2]
            rintro e w1 ⟨rfl, rfl⟩
            go_wp2_with fail
            go_roundw
            case rel => exact ⟨pos + kk, hd2, rfl, HN.out⟩
            case measure => simp; omega
    · have hnx := run_next_end (P := Tryz.prog) w s pos 0 hlt
      have HB : Hid (allB nmC s = true) := allB_yes (fun j hj => HA.out j (by omega))
      clear HA
      by_cases hs0 : s.size = 0
      · have HV : Hid (allN nmC s = false) := by show _ = _; unfold allN; rw [hs0]; simp
        obtain rfl := str_empty s hs0
        go_wp2_with fail
        go_ret
        exact ⟨by rw [HV.out]; rfl, iter_later _ _ _⟩
      · have HV : Hid (allN nmC s = true) := by show _ = _; unfold allN; rw [HB.out]; simp [hs0]
        have hne := str_ne hs0
        go_wp2_with fail
        go_ret
        exact ⟨by rw [HV.out]; rfl, iter_later _ _ _⟩

/-- A value: one line, with no blank ahead or behind. -/
def vlB (s : ByteArray) : Bool := allB lnC s && (!Lib.hasPrefix s.data.toList [32] && !Lib.hasSuffix s.data.toList [32])
theorem rightValue_any (s : ByteArray) (w : World) (hs : s.size ≤ 9223372036854775807) :
    Calls Tryz.prog 48 #[.string s] w fun e w' => e = .returned (.bool (vlB s)) ∧ Later w w' := by
  have HV : Hid (vlB s = (allB lnC s && (!Lib.hasPrefix s.data.toList [32] && !Lib.hasSuffix s.data.toList [32]))) := rfl
  generalize vlB s = r at *
  have HP := hide (fun W => Any.strings_HasPrefix prefL s ⟨#[32]⟩ W)
  have HS := hide (fun W => Any.strings_HasSuffix suffL s ⟨#[32]⟩ W hs)
  rw [show (⟨#[32]⟩ : ByteArray).data.toList = [32] from rfl] at HP HS
  generalize Lib.hasPrefix s.data.toList [32] = p1 at *
  generalize Lib.hasSuffix s.data.toList [32] = p2 at *
  go_enter Tryz.func48, Tryz.ntmps48
  go_wp2_with fail
  refine (rightLine_any s w).mono ?_
  generalize allB lnC s = b1 at *
  rintro e w1 ⟨rfl, l1⟩
  cases b1 with
  | false =>
    go_wp2_with fail
    go_ret
    exact ⟨by rw [HV.out]; rfl, l1⟩
  | true =>
    go_wp2_with fail
    refine (HP.out w1).mono ?_
    rintro e w2 ⟨rfl, rfl⟩
    cases p1 with
    | true =>
      go_wp2_with fail
      go_ret
      exact ⟨by rw [HV.out]; rfl, l1⟩
    | false =>
      go_wp2_with fail
      refine (HS.out _).mono ?_
      rintro e w3 ⟨rfl, rfl⟩
      go_wp2_with fail
      go_ret
      exact ⟨by rw [HV.out]; simp, l1⟩
theorem named_any (x y s : ByteArray) (w : World) (hs : x.size ≤ 9223372036854775807) :
    Calls Tryz.prog 49 #[.agg #[.string x, .string y], .string s] w fun e w' => e = .returned (.bool (swV x s)) ∧ Later w w' := by
  have l0 : Later w (w.alloc (.cells #[.string x, .string y] 44)) := later_allocR _ _
  have c0 := block_cell (heap_alloc_new w (.cells #[.string x, .string y] 44))
  go_enter Tryz.func49, Tryz.ntmps49
  go_wp2_with fail
  generalize w.alloc _ = w0 at *
  refine (sameWord_any x s w0 hs).mono ?_
  rintro e w1 ⟨rfl, l1⟩
  clear c0
  go_wp2_with fail
  go_ret
  exact ⟨rfl, Later.trans l0 l1⟩
theorem itoa_all (n : Nat) (w : World) (hT : TabI w) (hn : n ≤ 9223372036854775807) :
    Calls Tryz.prog 51 #[.int .i64 (n : Int)] w fun e w' => e = .returned (.string (decB n)) ∧ Below w.heap.size w w' := by
  refine (Any.strconv_Itoa itoaL (n : Int) (by omega) (by omega) w hT).mono ?_
  rintro e w' ⟨rfl, k, os, rfl⟩
  refine ⟨?_, Lib.below_grow _ _ (Nat.le_refl _) _ _⟩
  unfold Lib.itoa decB
  rw [if_neg (by omega)]
  rfl
theorem lengthValue_any (n : Nat) (w : World) (hT : TabI w) (hn : n ≤ 9223372036854775807) :
    Calls Tryz.prog 50 #[.int .i64 (n : Int)] w fun e w' => e = .returned (.string (decB n)) ∧ Later w w' := by
  go_enter Tryz.func50, Tryz.ntmps50
  go_wp2_with fail
  refine (itoa_all n w hT hn).mono ?_
  rintro e w1 ⟨rfl, l1⟩
  go_wp2_with fail
  go_ret
  exact ⟨rfl, l1⟩
theorem decimal_any (n : Nat) (w : World) (hT : TabI w) (hn : n ≤ 65535) :
    Calls Tryz.prog 69 #[.int .u16 (n : Int)] w fun e w' => e = .returned (.string (decB n)) ∧ Later w w' := by
  have hn' : (n : Int) ≤ 65535 := by omega
  go_enter Tryz.func69, Tryz.ntmps69
  go_wp2_with fail
  refine (itoa_any n w hT (by omega)).mono ?_
  rintro e w1 ⟨rfl, l1⟩
  go_wp2_with fail
  go_ret
  exact ⟨rfl, l1⟩
end Go.Proofs.YtibjgaelaijgpaaGreatDoor
