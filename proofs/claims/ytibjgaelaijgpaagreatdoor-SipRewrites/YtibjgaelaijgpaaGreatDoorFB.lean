/- Package written: number, Byte, Port. -/
import Derived.Test.YtibjgaelaijgpaaGreatDoorFA
namespace Go.Proofs.YtibjgaelaijgpaaGreatDoor
open Go.RowKit Go.Shelf
set_option maxRecDepth 100000
set_option linter.unusedVariables false
set_option linter.unusedSimpArgs false

theorem iter_later (w : World) (s : ByteArray) (p : Nat) : Later w (w.iter s p) := (Below.refl _ _).alloc (Nat.le_refl _) _
theorem bAt_rng (s : ByteArray) (i : Nat) : 0 ≤ bAt s i ∧ bAt s i ≤ 255 := by unfold bAt; have := (s.get! i).toNat_lt; omega
theorem str_empty (s : ByteArray) (h : s.size = 0) : s = ⟨#[]⟩ := by
  cases s with
  | mk d => simp [ByteArray.size] at h; simp [h]

set_option maxHeartbeats 8000000 in
theorem number_any (s : ByteArray) (most : Int) (w : World) (hm : 0 ≤ most ∧ most ≤ 1000000) :
    Calls Tryz.prog 93 #[.string s, .int .i64 most] w fun e w' => e = .returned (.tuple #[.int .i64 ((numV s most).getD 0), .bool (numV s most).isSome]) ∧ Later w w' := by
  have HE : Hid (s.size = 0 → numV s most = none) := fun h => by unfold numV; rw [if_pos h]
  have HN : Hid (s.size ≠ 0 → numV s most = numP s most s.size 0 0) := fun h => by unfold numV; rw [if_neg h]
  generalize numV s most = r at *
  obtain ⟨hm1, hm2⟩ := hm
  go_enter Tryz.func93, Tryz.ntmps93
  go_wp2_with fail
  go_loopw [6] (fun nv wr => ∃ (pos : Nat) (n : Int), pos ≤ s.size ∧ nv = .int .i64 n ∧ 0 ≤ n ∧ n ≤ most ∧ wr = w.iter s pos ∧ numP s most (s.size - pos) pos n = numP s most s.size 0 0 ∧ (pos = 0 → n = 0)) (fun _ wr => s.size - wr.iterPos w.heap.size)
  case atStart => exact ⟨0, 0, by omega, rfl, by omega, by omega, rfl, rfl, fun _ => rfl⟩
  case round =>
    obtain ⟨pos, n, hp, rfl, hn1, hn2, rfl, hnp, hz⟩ := hrel
    have HZ := hide hz
    have HNP := hide hnp
    clear hz hnp
    by_cases hlt : pos < s.size
    · have hnx := run_next_any (P := Tryz.prog) w s pos 0 hlt
      obtain ⟨hd1, hd2⟩ := decode_dgt s pos hlt
      have hb := bAt_rng s pos
      have HR := hide (HN.out (by omega))
      have HS : Hid (numP s most (s.size - pos) pos n = if dgt (bAt s pos) = false then none else if 0 < pos ∧ n = 0 then none else if most < n * 10 + (bAt s pos - 48) then none else numP s most (s.size - (pos + 1)) (pos + 1) (n * 10 + (bAt s pos - 48))) := by
        show _ = _
        rw [show s.size - pos = (s.size - (pos + 1)) + 1 by omega]
        rfl
      generalize hc : Utf8.decode s pos = dc at *
      obtain ⟨c, kk⟩ := dc
      have HD2 := hide hd2
      have HD1 := hide hd1
      clear hd1 hd2 hc
      simp only at hnx
      generalize hbb : bAt s pos = bb at *
      have HBB : Hid ((((s.get! pos).toNat : Nat) : Int) = bb) := hbb
      clear hbb
      cases hdg : dgt bb with
      | false =>
        have hdc : dgt (c : Int) = false := HD1.out.trans hdg
        have HV : Hid (r = none) := by show _ = _; rw [HR.out, ← HNP.out, HS.out, if_pos hdg]
        clear hdg
        rcases (show pos = 0 ∨ (0 < pos ∧ n = 0) ∨ (0 < pos ∧ n ≠ 0) by omega) with hq | ⟨hq, hq2⟩ | ⟨hq, hq2⟩
        case' inl =>
          have q1 : ¬ (0 : Int) < (pos : Int) := by omega
          have q2 : ¬ 0 < pos := by omega
          clear hq
        case' inr.inl =>
          have q1 : (0 : Int) < (pos : Int) := by omega
          have q3 : (n == 0) = true := by simp [hq2]
          clear hq2
        case' inr.inr =>
          have q1 : (0 : Int) < (pos : Int) := by omega
          have q3 : (n == 0) = false := by simpa using hq2
        all_goals
          go_wp2_with fail
          refine (isDigit_any (c : Int) _).mono ?_
          rw [hdc]
          rintro e w1 ⟨rfl, rfl⟩
          clear hdc
          go_wp2_with fail
          refine bodyPost_ret (v := .tuple #[.int .i64 0, .bool false]) (by simp [results, Tryz.results93, go_sem]) rfl ?_
          rw [HV.out]
          exact ⟨rfl, iter_later _ _ _⟩
      | true =>
        have hdc : dgt (c : Int) = true := HD1.out.trans hdg
        have hcc := HD2.out hdg
        have hd3 : 48 ≤ bb ∧ bb ≤ 57 := by unfold dgt at hdg; simpa using hdg
        obtain ⟨rfl, rfl⟩ : c = (s.get! pos).toNat ∧ kk = 1 := by simpa using hcc
        have hcb : (((s.get! pos).toNat : Nat) : Int) = bb := HBB.out
        rw [hcb] at hnx hdc
        clear hcc hcb HD1 HD2
        have HS2 : Hid (numP s most (s.size - pos) pos n = if 0 < pos ∧ n = 0 then none else if most < n * 10 + (bb - 48) then none else numP s most (s.size - (pos + 1)) (pos + 1) (n * 10 + (bb - 48))) := by show _ = _; rw [HS.out, hdg, if_neg (by simp)]
        clear hdg HS
        obtain ⟨hd3, hd4⟩ := hd3
        by_cases hno : 0 < pos ∧ n = 0
        · have HV : Hid (r = none) := by show _ = _; rw [HR.out, ← HNP.out, HS2.out, if_pos hno]
          have q1 : (0 : Int) < (pos : Int) := by omega
          have q2 := hno.1
          have q3 : (n == 0) = true := by simp [hno.2]
          clear hno
          go_wp2_with fail
          refine (isDigit_any bb _).mono ?_
          rw [hdc]
          rintro e w1 ⟨rfl, rfl⟩
          clear hdc
          go_wp2_with fail
          refine bodyPost_ret (v := .tuple #[.int .i64 0, .bool false]) (by simp [results, Tryz.results93, go_sem]) rfl ?_
          rw [HV.out]
          exact ⟨rfl, iter_later _ _ _⟩
        · have HS3 : Hid (numP s most (s.size - pos) pos n = if most < n * 10 + (bb - 48) then none else numP s most (s.size - (pos + 1)) (pos + 1) (n * 10 + (bb - 48))) := by show _ = _; rw [HS2.out, if_neg hno]
          rcases (show pos = 0 ∨ (0 < pos ∧ n ≠ 0) by omega) with hq | ⟨hq, hq2⟩
          case' inl =>
            have q1 : ¬ (0 : Int) < (pos : Int) := by omega
            have q2 : ¬ 0 < pos := by omega
            clear hq
          case' inr =>
            have q1 : (0 : Int) < (pos : Int) := by omega
            have q3 : (n == 0) = false := by simpa using hq2
          all_goals
            clear hno HS2
            by_cases hbig : most < n * 10 + (bb - 48)
            · have HV : Hid (r = none) := by show _ = _; rw [HR.out, ← HNP.out, HS3.out, if_pos hbig]
              go_wp2_with fail
              refine (isDigit_any bb _).mono ?_
              rw [hdc]
              rintro e w1 ⟨rfl, rfl⟩
              clear hdc
              go_wp2_with fail
              refine bodyPost_ret (v := .tuple #[.int .i64 0, .bool false]) (by simp [results, Tryz.results93, go_sem]) rfl ?_
              rw [HV.out]
              exact ⟨rfl, iter_later _ _ _⟩
            · have HP : Hid (numP s most (s.size - (pos + 1)) (pos + 1) (n * 10 + (bb - 48)) = numP s most s.size 0 0) := by show _ = _; rw [← HNP.out, HS3.out, if_neg hbig]
              have hrg : 0 ≤ n * 10 + (bb - 48) := by omega
              go_wp2_with fail
              refine (isDigit_any bb _).mono ?_
              rw [hdc]
              rintro e w1 ⟨rfl, rfl⟩
              clear hdc
              go_wp2_with fail
              go_roundw
              case rel => exact ⟨pos + 1, n * 10 + (bb - 48), by omega, rfl, hrg, by omega, rfl, HP.out, by omega⟩
              case measure => simp; omega
    · have hpe : pos = s.size := by omega
      have hnx := run_next_end (P := Tryz.prog) w s pos 0 hlt
      have hse : pos = 0 → s.size = 0 := by omega
      clear hpe
      by_cases hs0 : s.size = 0
      · have HV := hide (HE.out hs0)
        obtain rfl := str_empty s hs0
        have hn0 : n = 0 := HZ.out (by omega)
        subst hn0
        go_wp2_with fail
        refine bodyPost_ret (v := .tuple #[.int .i64 0, .bool false]) (by simp [results, Tryz.results93, go_sem]) rfl ?_
        rw [HV.out]
        exact ⟨rfl, iter_later _ _ _⟩
      · have HV : Hid (r = some n) := by show _ = _; rw [HN.out hs0, ← HNP.out, show s.size - pos = 0 by omega]; rfl
        have hne : s.toList.isEmpty = false := by
          rw [ByteArray.toList_eq]
          cases hl : s.data.toList with
          | nil => exact absurd (by show s.data.size = 0; rw [← Array.length_toList, hl]; rfl) hs0
          | cons _ _ => rfl
        go_wp2_with fail
        refine bodyPost_ret (v := .tuple #[.int .i64 n, .bool true]) (by simp [results, Tryz.results93, go_sem]) rfl ?_
        rw [HV.out]
        exact ⟨rfl, iter_later _ _ _⟩

theorem numP_rng (s : ByteArray) (most : Int) (hm : 0 ≤ most) : ∀ k pos n r, 0 ≤ n → n ≤ most → numP s most k pos n = some r → 0 ≤ r ∧ r ≤ most
  | 0, pos, n, r, h1, h2, h => by
    have e : n = r := by simpa [numP] using h
    rw [← e]
    exact ⟨h1, h2⟩
  | k + 1, pos, n, r, h1, h2, h => by
    unfold numP at h
    split at h
    · cases h
    rename_i hd
    split at h
    · cases h
    split at h
    · cases h
    have hd' : dgt (bAt s pos) = true := by simpa using hd
    unfold dgt at hd'
    simp at hd'
    exact numP_rng s most hm k (pos + 1) _ r (by omega) (by omega) h
theorem numV_rng (s : ByteArray) (most : Int) (hm : 0 ≤ most) : 0 ≤ (numV s most).getD 0 ∧ (numV s most).getD 0 ≤ most := by
  cases h : numV s most with
  | none => exact ⟨Int.le_refl _, hm⟩
  | some r =>
    unfold numV at h
    split at h
    · cases h
    exact numP_rng s most hm _ _ _ r (Int.le_refl _) hm h

theorem wport_any (s : ByteArray) (w : World) : Calls Tryz.prog 82 #[.string s] w fun e w' => e = .returned (.tuple #[.int .u16 ((numV s 65535).getD 0), .bool ((numV s 65535).isSome && !decide ((numV s 65535).getD 0 = 0))]) ∧ Later w w' := by
  have hr := numV_rng s 65535 (by omega)
  have HN := hide (number_any s 65535 w (by omega))
  generalize (numV s 65535).getD 0 = v at *
  generalize (numV s 65535).isSome = b at *
  obtain ⟨h1, h2⟩ := hr
  by_cases hv : v = 0
  case' pos =>
    have hv1 : (v == 0) = true := by simp [hv]
    have HV : Hid (decide (v = 0) = true) := decide_eq_true hv
  case' neg =>
    have hv1 : (v == 0) = false := by simpa using hv
    have HV : Hid (decide (v = 0) = false) := decide_eq_false hv
  all_goals
    clear hv
    rw [HV.out]
    go_enter Tryz.func82, Tryz.ntmps82
    go_wp2_with fail
    refine HN.out.mono ?_
    rintro e w1 ⟨rfl, l1⟩
    cases b with
    | false =>
      go_wp2_with fail
      refine bodyPost_ret (v := .tuple #[.int .u16 v, .bool false]) (by first | (simp [results, Tryz.results82, go_sem]; done) | (simp [results, Tryz.results82, go_sem]; omega)) rfl ?_
      exact ⟨rfl, l1⟩
    | true =>
      go_wp2_with fail
      refine bodyPost_ret (v := .tuple #[.int .u16 v, .bool (v != 0)]) (by simp [results, Tryz.results82, go_sem]) rfl ?_
      exact ⟨by simp [bne, hv1], l1⟩
end Go.Proofs.YtibjgaelaijgpaaGreatDoor
