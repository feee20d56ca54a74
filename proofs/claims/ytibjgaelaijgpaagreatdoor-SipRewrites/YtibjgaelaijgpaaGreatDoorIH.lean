/- The library's search for a rune in a short text, at runes beyond ASCII. -/
import Derived.Test.YtibjgaelaijgpaaGreatDoorIG
namespace Go.Proofs.YtibjgaelaijgpaaGreatDoor
open Go.RowKit Go.Shelf
set_option maxRecDepth 100000
set_option linter.unusedVariables false
set_option linter.unusedSimpArgs false

theorem validRune_any (r : Int) (w : World) (h : 128 ≤ r ∧ r ≤ 1114111) :
    Calls Tryz.prog 95 #[.int .i32 r] w fun e w' => e = .returned (.bool (decide (r < 55296 ∨ 57343 < r))) ∧ w' = w := by
  obtain ⟨h0, h1⟩ := h
  have h2 : 0 ≤ r := by omega
  go_enter Tryz.func95, Tryz.ntmps95
  by_cases c1 : r < 55296
  · go_wp2_with fail
    go_ret
    exact ⟨by simp [c1], rfl⟩
  · by_cases c2 : 57343 < r
    · go_wp2_with fail
      go_ret
      exact ⟨by simp [c2], rfl⟩
    · go_wp2_with fail
      go_ret
      exact ⟨by simp [c1, c2], rfl⟩
theorem enc_size (r : Nat) (h : 128 ≤ r ∧ r ≤ 1114111) (hv : r < 55296 ∨ 57343 < r) : 2 ≤ (Utf8.encode (r : Int)).size ∧ (Utf8.encode (r : Int)).size ≤ 4 ∧ 128 ≤ ((Utf8.encode (r : Int)).get! ((Utf8.encode (r : Int)).size - 1)).toNat := by
  have hval : Utf8.valid (r : Int) = true := by unfold Utf8.valid; simp; omega
  unfold Utf8.encode
  simp only [hval, if_true, Int.toNat_natCast]
  rw [if_neg (by omega)]
  split
  · refine ⟨by simp [ByteArray.size], by simp [ByteArray.size], ?_⟩
    simp [ByteArray.size, ByteArray.get!]
    omega
  · split
    · refine ⟨by simp [ByteArray.size], by simp [ByteArray.size], ?_⟩
      simp [ByteArray.size, ByteArray.get!]
      omega
    · refine ⟨by simp [ByteArray.size], by simp [ByteArray.size], ?_⟩
      simp [ByteArray.size, ByteArray.get!]
      omega

set_option maxHeartbeats 4000000 in
theorem indexRune_hi (s : ByteArray) (hs : s = ⟨#[59]⟩ ∨ s = ⟨#[62, 59]⟩) (r : Nat) (h : 128 ≤ r ∧ r ≤ 1114111) (w : World) :
    Calls Tryz.prog 84 #[.string s, .int .i32 (r : Int)] w fun e w' => e = .returned (.int .i64 (-1)) ∧ Later w w' := by
  obtain ⟨h0, h1⟩ := h
  have h128 : ¬ (r : Int) < 128 := by omega
  have h00 : (0 : Int) ≤ (r : Int) := by omega
  have hsz : s.size = 1 ∨ s.size = 2 := by rcases hs with rfl | rfl; (· exact .inl rfl); (· exact .inr rfl)
  have hby : ∀ j, j < s.size → bAt s j < 128 := by
    rcases hs with rfl | rfl
    · intro j hj
      obtain rfl : j = 0 := by have : j < 1 := hj; omega
      decide
    · intro j hj
      have : j = 0 ∨ j = 1 := by have : j < 2 := hj; omega
      rcases this with rfl | rfl <;> decide
  go_enter Tryz.func84, Tryz.ntmps84
  by_cases hE : r = 65533
  · have te : ((r : Int) == 65533) = true := by simp [hE]
    clear hs
    go_wp2_with fail
    go_loopw [] (fun wr => ∃ pos : Nat, pos ≤ s.size ∧ wr = w.iter s pos) (fun wr => s.size - wr.iterPos w.heap.size)
    case atStart => exact ⟨0, by omega, rfl⟩
    case round =>
      obtain ⟨pos, hp, rfl⟩ := hrel
      by_cases hlt : pos < s.size
      · have hnx := run_next_any (P := Tryz.prog) w s pos 0 hlt
        obtain ⟨_, _, _, hd4, _⟩ := decode_skip s pos hlt
        have hb := hby pos hlt
        rw [hd4 hb] at hnx
        have hne : (((s.get! pos).toNat : Int) == 65533) = false := by
          unfold bAt at hb
          simp
          omega
        simp only at hnx
        generalize (s.get! pos).toNat = cc at *
        clear hb hd4
        go_wp2_with fail
        go_roundw
        case rel => exact ⟨pos + 1, by omega, rfl⟩
        case measure => simp; omega
      · have hnx := run_next_end (P := Tryz.prog) w s pos 0 hlt
        go_wp2_with fail
        go_ret
        exact ⟨rfl, iter_later _ _ _⟩
  · have te : ((r : Int) == 65533) = false := by simp; omega
    by_cases hv : (r : Int) < 55296 ∨ 57343 < (r : Int)
    case neg =>
      have HV := hide (validRune_any (r : Int) w ⟨by omega, by omega⟩)
      rw [show decide ((r : Int) < 55296 ∨ 57343 < (r : Int)) = false from decide_eq_false hv] at HV
      go_wp2_with fail
      refine HV.out.mono ?_
      rintro e w1 ⟨rfl, rfl⟩
      go_wp2_with fail
      go_ret
      exact ⟨rfl, Later.refl _⟩
    have HV := hide (validRune_any (r : Int) w ⟨by omega, by omega⟩)
    rw [show decide ((r : Int) < 55296 ∨ 57343 < (r : Int)) = true from decide_eq_true hv] at HV
    obtain ⟨z1, z2, z3⟩ := enc_size r ⟨h0, h1⟩ (by omega)
    have hcv : ∀ W : World, (convert 21 9 (.int .i32 (r : Int))).run Tryz.prog W = .ok (.string (Utf8.encode (r : Int))) W := fun W => by kernel_rfl
    generalize Utf8.encode (r : Int) = rs at *
    go_wp2_with fail
    refine HV.out.mono ?_
    rintro e w1 ⟨rfl, rfl⟩
    go_wp2_with fail
    refine wp_scope_straight ?_
    have hlast : (((rs.size : Nat) : Int) - 1) = ((rs.size - 1 : Nat) : Int) := by omega
    go_wp2_with fail
    go_loopw [9] (fun iv wr => iv = .int .i64 ((rs.size - 1 : Nat) : Int) ∧ Later w1 wr) (fun _ _ => 0)
    case atStart => exact ⟨by go_num, Later.refl _⟩
    case round =>
      obtain ⟨rfl, lr⟩ := hrel
      by_cases hlt : rs.size - 1 < s.size
      case neg =>
        have hn : ¬ ((rs.size - 1 : Nat) : Int) < (s.size : Int) := by omega
        clear hlt hs hsz hby
        go_wp2_with fail
        go_ret
        exact ⟨rfl, lr⟩
      have e2 : rs.size = 2 := by omega
      have hs2 : s.size = 2 := by omega
      have hs3 : s = ⟨#[62, 59]⟩ := by
        rcases hs with rfl | rfl
        · exact absurd hs2 (by decide)
        · rfl
      subst hs3
      rw [e2] at z3 hlast ⊢
      have hlt2 : ((2 - 1 : Nat) : Int) < 2 := by omega
      clear hs hsz hby hlt hs2 z1 z2
      simp only [show (2 - 1 : Nat) = 1 from rfl] at z3
      go_wp2_with fail
      refine wp_scope_straight ?_
      go_wp2_with fail
      rw [show ((2 - 1 : Nat) : Int) = 1 from rfl]
      refine anyR_begin (R := Later) Later.pre Later.drew 7 rfl (by kernel_rfl) (fun V0 hV0 => ?_)
      refine anyR_val Later.pre 0 rfl (by kernel_rfl) (by kernel_rfl) (by kernel_rfl) (fun _ _ _ _ h => h) rfl ?_; apply Exists.intro; refine ⟨fun v1 hv1 => ?_, ?_⟩; (· (go_simp; rfl)); simp only [Act.put, List.setIfInBounds_toArray, List.set_cons_zero, List.set_cons_succ]
      refine anyR_val Later.pre 1 rfl (by kernel_rfl) (by kernel_rfl) (by kernel_rfl) (fun _ _ _ _ h => h) rfl ?_; apply Exists.intro; refine ⟨fun v1 hv1 => ?_, ?_⟩; (· (go_simp; rfl)); simp only [Act.put, List.setIfInBounds_toArray, List.set_cons_zero, List.set_cons_succ]
      refine anyR_val Later.pre 2 rfl (by kernel_rfl) (by kernel_rfl) (by kernel_rfl) (fun _ _ _ _ h => h) rfl ?_; apply Exists.intro; refine ⟨fun v1 hv1 => ?_, ?_⟩; (· (go_simp; rfl)); simp only [Act.put, List.setIfInBounds_toArray, List.set_cons_zero, List.set_cons_succ]
      refine anyR_val Later.pre 3 rfl (by kernel_rfl) (by kernel_rfl) (by kernel_rfl) (fun _ _ _ _ h => h) rfl ?_; apply Exists.intro; refine ⟨fun v1 hv1 => ?_, ?_⟩; (· (go_simp; rfl)); simp only [Act.put, List.setIfInBounds_toArray, List.set_cons_zero, List.set_cons_succ]
      refine anyR_val Later.pre 4 rfl (by kernel_rfl) (by kernel_rfl) (by kernel_rfl) (fun _ _ _ _ h => h) rfl ?_; apply Exists.intro; refine ⟨fun v1 hv1 => ?_, ?_⟩; (· (go_simp; rfl)); simp only [Act.put, List.setIfInBounds_toArray, List.set_cons_zero, List.set_cons_succ]
      refine anyR_val Later.pre 5 rfl (by kernel_rfl) (by kernel_rfl) (by kernel_rfl) (fun _ _ _ _ h => h) rfl ?_; apply Exists.intro; refine ⟨fun v1 hv1 => ?_, ?_⟩; (· (go_simp; rfl)); simp only [Act.put, List.setIfInBounds_toArray, List.set_cons_zero, List.set_cons_succ]
      refine anyR_val Later.pre 6 rfl (by kernel_rfl) (by kernel_rfl) (by kernel_rfl) (fun _ _ _ _ h => h) rfl ?_; apply Exists.intro; refine ⟨fun v1 hv1 => ?_, ?_⟩; (· (go_simp; rfl)); simp only [Act.put, List.setIfInBounds_toArray, List.set_cons_zero, List.set_cons_succ]
      have hne : (((((⟨#[62, 59]⟩ : ByteArray)[1]'(by decide)).toNat : Nat) : Int) != (((rs[1]'(by omega)).toNat : Nat) : Int)) = true := by
        have e1 : rs[1]'(by omega) = rs.get! 1 := by simp [ByteArray.get!, getElem!_pos, e2]; rfl
        rw [e1]
        have : ((⟨#[62, 59]⟩ : ByteArray)[1]'(by decide)).toNat = 59 := rfl
        rw [this]
        simp
        omega
      refine anyR_done (by kernel_rfl) (fun V1 hV1 => ?_)
      have L1 := lr.trans (hV0.trans hV1)
      clear hV0 hV1
      go_upto_region 7 with fail
      clear hne
      refine anyR_begin (R := Later) Later.pre Later.drew 9 rfl (by kernel_rfl) (fun V0 hV0 => ?_)
      refine anyR_val Later.pre 0 rfl (by kernel_rfl) (by kernel_rfl) (by kernel_rfl) (fun _ _ _ _ h => h) rfl ?_; apply Exists.intro; refine ⟨fun v1 hv1 => ?_, ?_⟩; (· (go_simp; rfl)); simp only [Act.put, List.setIfInBounds_toArray, List.set_cons_zero, List.set_cons_succ]
      refine anyR_val Later.pre 1 rfl (by kernel_rfl) (by kernel_rfl) (by kernel_rfl) (fun _ _ _ _ h => h) rfl ?_; apply Exists.intro; refine ⟨fun v1 hv1 => ?_, ?_⟩; (· (go_simp; rfl)); simp only [Act.put, List.setIfInBounds_toArray, List.set_cons_zero, List.set_cons_succ]
      refine anyR_val Later.pre 2 rfl (by kernel_rfl) (by kernel_rfl) (by kernel_rfl) (fun _ _ _ _ h => h) rfl ?_; apply Exists.intro; refine ⟨fun v1 hv1 => ?_, ?_⟩; (· (go_simp; rfl)); simp only [Act.put, List.setIfInBounds_toArray, List.set_cons_zero, List.set_cons_succ]
      refine anyR_val Later.pre 3 rfl (by kernel_rfl) (by kernel_rfl) (by kernel_rfl) (fun _ _ _ _ h => h) rfl ?_; apply Exists.intro; refine ⟨fun v1 hv1 => ?_, ?_⟩; (· (go_simp; rfl)); simp only [Act.put, List.setIfInBounds_toArray, List.set_cons_zero, List.set_cons_succ]
      refine anyR_val Later.pre 4 rfl (by kernel_rfl) (by kernel_rfl) (by kernel_rfl) (fun _ _ _ _ h => h) rfl ?_; apply Exists.intro; refine ⟨fun v1 hv1 => ?_, ?_⟩; (· (go_simp; rfl)); simp only [Act.put, List.setIfInBounds_toArray, List.set_cons_zero, List.set_cons_succ]
      refine anyR_val Later.pre 5 rfl (by kernel_rfl) (by kernel_rfl) (by kernel_rfl) (fun _ _ _ _ h => h) rfl ?_; apply Exists.intro; refine ⟨fun v1 hv1 => ?_, ?_⟩; (· (go_simp; rfl)); simp only [Act.put, List.setIfInBounds_toArray, List.set_cons_zero, List.set_cons_succ]
      refine anyR_val Later.pre 6 rfl (by kernel_rfl) (by kernel_rfl) (by kernel_rfl) (fun _ _ _ _ h => h) rfl ?_; apply Exists.intro; refine ⟨fun v1 hv1 => ?_, ?_⟩; (· (go_simp; rfl)); simp only [Act.put, List.setIfInBounds_toArray, List.set_cons_zero, List.set_cons_succ]
      have hex : (⟨#[62, 59]⟩ : ByteArray).extract (IntKind.i64.wrap 2).toNat 2 = ⟨#[]⟩ := by rfl
      rw [hex]
      have HIX := hide (fun W => Any.strings_IndexByte ixbL ⟨#[]⟩ (((rs[1]'(by omega)).toNat : Nat) : Int) W)
      rw [show Lib.indexByte (⟨#[]⟩ : ByteArray).data.toList ((((rs[1]'(by omega)).toNat : Nat) : Int).toNat.toUInt8) = -1 from rfl] at HIX
      refine anyR_take Later.pre 7 (.int .i64 (-1)) rfl (by kernel_rfl) (by kernel_rfl) (by kernel_rfl) (fun _ _ _ h => h) rfl (fun v1 hv1 => goes_call 94 #[.string ⟨#[]⟩, .int .u8 (((rs[1]'(by omega)).toNat : Nat) : Int)] (by go_simp) ((HIX.out v1).mono (fun e w' h => ⟨h.1, by rw [h.2]; exact Later.refl _⟩))) ?_
      simp only [Act.put, List.setIfInBounds_toArray, List.set_cons_zero, List.set_cons_succ]
      refine anyR_val Later.pre 8 rfl (by kernel_rfl) (by kernel_rfl) (by kernel_rfl) (fun _ _ _ _ h => h) rfl ?_; apply Exists.intro; refine ⟨fun v1 hv1 => ?_, ?_⟩; (· (go_simp; rfl)); simp only [Act.put, List.setIfInBounds_toArray, List.set_cons_zero, List.set_cons_succ]
      refine anyR_done (by kernel_rfl) (fun V1 hV1 => ?_)
      go_wp2_with fail
      change bodyPost Tryz.prog Tryz.f84 (fun e w' => e = Ending.returned (Value.int .i64 (-1)) ∧ Later w1 w') Exit.ret _ _
      go_ret
      exact ⟨rfl, L1.trans (hV0.trans hV1)⟩

/-- A rune is one of the ends. -/
def enC (s : ByteArray) (c : Int) : Bool := decide (c < 128) && decide (0 ≤ Lib.indexByte s.data.toList c.toNat.toUInt8)
theorem containsRune_any (s : ByteArray) (hs : s = ⟨#[59]⟩ ∨ s = ⟨#[62, 59]⟩) (r : Nat) (h : r ≤ 1114111) (w : World) :
    Calls Tryz.prog 71 #[.string s, .int .i32 (r : Int)] w fun e w' => e = .returned (.bool (enC s r)) ∧ Later w w' := by
  unfold enC
  by_cases hr : (r : Int) < 128
  · refine (Any.strings_ContainsRune_ascii runesL s (r : Int) w (by omega) hr).mono ?_
    rintro e w' ⟨rfl, rfl⟩
    exact ⟨by simp [hr], Later.refl _⟩
  · rw [decide_eq_false hr, Bool.false_and]
    go_enter Tryz.func71, Tryz.ntmps71
    go_wp2_with fail
    refine (indexRune_hi s hs r ⟨by omega, h⟩ w).mono ?_
    rintro e w1 ⟨rfl, l1⟩
    go_wp2_with fail
    go_ret
    exact ⟨rfl, l1⟩
end Go.Proofs.YtibjgaelaijgpaaGreatDoor
