/- Layer 7: what a segment tells, and what follows. -/
import Derived.Deep.DeepCutAuto
import Derived.Deep.CutBlock
import Derived.Test.YtbkggohjbigbgaaKA
namespace Go.Proofs.Ytbkggohjbigbgaa
open Go.RowKit Go.Shelf
set_option maxRecDepth 100000
set_option linter.unusedVariables false
set_option linter.unusedSimpArgs false

def fb (fl k : Int) : Int := bits .and .u8 fl k
def bgn (fl : Int) : Bool := bits .and .u8 fl 23 == 2
theorem begins_any (fl : Int) (w : World) : Calls Try.prog 12 #[.int .u8 fl] w fun e w' => e = .returned (.bool (bgn fl)) ∧ w' = w := by
  go_enter Try.func12, Try.ntmps12
  go_wp2_with fail
  go_ret
  exact ⟨rfl, rfl⟩

def nwsS (b : Bool) (fl : Int) : Int := if b then 3 else if bgn fl then 2 else 4
theorem newsOfSyn_any (b : Bool) (fl : Int) (w : World) : Calls Try.prog 24 #[.bool b, .int .u8 fl] w fun e w' => e = .returned (.int .i64 (nwsS b fl)) ∧ w' = w := by
  cases b
  · go_enter Try.func24, Try.ntmps24
    go_wp2_with fail
    refine (begins_any fl _).mono ?_
    rintro e w1 ⟨rfl, rfl⟩
    rcases Bool.eq_false_or_eq_true (bgn fl) with h | h
    · rw [h]; go_wp2_with fail; go_ret; exact ⟨by simp [nwsS, h], rfl⟩
    · rw [h]; go_wp2_with fail; go_ret; exact ⟨by simp [nwsS, h], rfl⟩
  · go_enter Try.func24, Try.ntmps24
    go_wp2_with fail
    go_ret
    exact ⟨rfl, rfl⟩

def nws (b : Bool) (fl : Int) : Int := if (fb fl 4 != 0) then 1 else if (fb fl 2 != 0) then nwsS b fl else if (fb fl 1 != 0) then 5 else if (fb fl 16 != 0) then 6 else 0
theorem nws_bd (b : Bool) (fl : Int) : nws b fl = 0 ∨ nws b fl = 1 ∨ nws b fl = 2 ∨ nws b fl = 3 ∨ nws b fl = 4 ∨ nws b fl = 5 ∨ nws b fl = 6 := by
  unfold nws nwsS
  repeat' split
  all_goals simp

theorem newsOf_any (b : Bool) (fl : Int) (w : World) : Calls Try.prog 21 #[.bool b, .int .u8 fl] w fun e w' => e = .returned (.int .i64 (nws b fl)) ∧ w' = w := by
  unfold nws fb
  rcases Bool.eq_false_or_eq_true (bits .and .u8 fl 4 != 0) with h4 | h4
  · rw [h4]
    go_enter Try.func21, Try.ntmps21
    go_wp2_with fail
    go_ret
    exact ⟨rfl, rfl⟩
  rcases Bool.eq_false_or_eq_true (bits .and .u8 fl 2 != 0) with h2 | h2
  · rw [h4, h2]
    go_enter Try.func21, Try.ntmps21
    go_wp2_with fail
    refine (newsOfSyn_any b fl _).mono ?_
    rintro e w1 ⟨rfl, rfl⟩
    go_wp2_with fail
    go_ret
    exact ⟨rfl, rfl⟩
  rcases Bool.eq_false_or_eq_true (bits .and .u8 fl 1 != 0) with h1 | h1
  · rw [h4, h2, h1]
    go_enter Try.func21, Try.ntmps21
    go_wp2_with fail
    go_ret
    exact ⟨rfl, rfl⟩
  rcases Bool.eq_false_or_eq_true (bits .and .u8 fl 16 != 0) with h16 | h16
  · rw [h4, h2, h1, h16]
    go_enter Try.func21, Try.ntmps21
    go_wp2_with fail
    go_ret
    exact ⟨rfl, rfl⟩
  · rw [h4, h2, h1, h16]
    go_enter Try.func21, Try.ntmps21
    go_wp2_with fail
    go_ret
    exact ⟨rfl, rfl⟩

def nx (s : Int) (b : Bool) (fl : Int) : Int := if (fb fl 7 == 3) then 0 else (row7 s)[(nws b fl).toNat]?.getD 0
theorem row7_length (s : Int) : (row7 s).length = 7 := by unfold row7; repeat' (first | rfl | split)
theorem row7_eq (s : Int) : ∃ a0 a1 a2 a3 a4 a5 a6, row7 s = [a0, a1, a2, a3, a4, a5, a6] := by
  have := row7_length s
  match row7 s, this with
  | [a0, a1, a2, a3, a4, a5, a6], _ => exact ⟨_, _, _, _, _, _, _, rfl⟩

set_option maxHeartbeats 4000000 in
theorem next_any (s : Int) (b : Bool) (fl : Int) (w : World) : Calls Try.prog 9 #[.int .i64 s, .bool b, .int .u8 fl] w fun e w' => e = .returned (.tuple #[.int .i64 (nx s b fl), .bool (nx s b fl != 0)]) ∧ Below w.heap.size w w' := by
  unfold nx fb
  rcases Bool.eq_false_or_eq_true (bits .and .u8 fl 7 == 3) with h7 | h7
  · rw [h7]
    go_enter Try.func9, Try.ntmps9
    go_wp2_with fail
    exact bodyPost_ret (v := .tuple #[.int .i64 0, .bool false]) (by simp [results, Try.results9, go_sem]) rfl ⟨rfl, Below.refl _ _⟩
  · rw [h7]
    obtain ⟨a0, a1, a2, a3, a4, a5, a6, hrow⟩ := row7_eq s
    have hL : ∀ (W : World) (b : Nat), W.heap[b]? = some (.map tabE 8) → (Instr.lookup 37 (.map (some b)) (.int .i64 s) false).run Try.prog W = .ok (.agg #[.int .i64 a0, .int .i64 a1, .int .i64 a2, .int .i64 a3, .int .i64 a4, .int .i64 a5, .int .i64 a6]) W := fun W b hb => by rw [look7 hb s, hrow]; rfl
    go_enter Try.func9, Try.ntmps9
    go_upto_region 3 with fail
    go_cut [8] (fun v wx => v = .int .i64 ((row7 s)[(nws b fl).toNat]?.getD 0) ∧ Below w.heap.size w wx)
    case first =>
      refine anyR_begin (R := Later) Later.pre Later.drew 8 rfl (by kernel_rfl) (fun W1 hW1 => ?_)
      refine anyR_val Later.pre 1 rfl (by kernel_rfl) (by kernel_rfl) (by kernel_rfl) (fun _ _ _ _ h => h) rfl ?_; apply Exists.intro; refine ⟨fun w1 hw1 => ?_, ?_⟩; (· (go_simp; rfl)); simp only [Act.put, List.setIfInBounds_toArray, List.set_cons_zero, List.set_cons_succ]
      refine anyR_val Later.pre 3 rfl (by kernel_rfl) (by kernel_rfl) (by kernel_rfl) (fun _ _ _ _ h => h) rfl ?_; apply Exists.intro; refine ⟨fun w1 hw1 => ?_, ?_⟩; (· (go_simp; rfl)); simp only [Act.put, List.setIfInBounds_toArray, List.set_cons_zero, List.set_cons_succ]
      refine anyR_val Later.pre 4 rfl (by kernel_rfl) (by kernel_rfl) (by kernel_rfl) (fun _ _ _ _ h => h) rfl ?_; apply Exists.intro; refine ⟨fun w1 hw1 => ?_, ?_⟩; (· (go_simp; rfl)); simp only [Act.put, List.setIfInBounds_toArray, List.set_cons_zero, List.set_cons_succ]
      refine anyR_one 0 rfl (by kernel_rfl) rfl (fun W2 hW2 => ?_)
      refine wp_enter 20 #[] (by go_simp) ?_
      refine (follows_any W2).mono ?_
      rintro e W3 ⟨m, rfl, hb3, hM3⟩
      refine ⟨hb3, ?_⟩
      simp only [Act.put, List.setIfInBounds_toArray, List.set_cons_zero, List.set_cons_succ]
      refine anyR_val Later.pre 2 rfl (by kernel_rfl) (by kernel_rfl) (by kernel_rfl) (fun _ _ _ _ h => h) rfl ?_
      refine ⟨.agg #[.int .i64 a0, .int .i64 a1, .int .i64 a2, .int .i64 a3, .int .i64 a4, .int .i64 a5, .int .i64 a6], fun w1 hw1 => ?_, ?_⟩
      · have := hL w1 m ((hw1.block m (Array.getElem?_eq_some_iff.1 hM3).1).trans hM3)
        go_simp
      simp only [Act.put, List.setIfInBounds_toArray, List.set_cons_zero, List.set_cons_succ]
      refine anyR_one 5 rfl (by kernel_rfl) rfl (fun W4 hW4 => ?_)
      refine wp_enter 21 #[.bool b, .int .u8 fl] (by go_simp) ?_
      refine (newsOf_any b fl W4).mono ?_
      rintro e W5 ⟨rfl, rfl⟩
      refine ⟨Later.refl _, ?_⟩
      simp only [Act.put, List.setIfInBounds_toArray, List.set_cons_zero, List.set_cons_succ]
      have hbel : ∀ W6, Later W5 W6 → Below w.heap.size w W6 := fun W6 h => (((hW1.trans hW2).trans hb3).trans hW4).trans h
      clear hL
      rcases nws_bd b fl with h | h | h | h | h | h | h <;>
      · rw [h]
        refine anyR_val Later.pre 6 rfl (by kernel_rfl) (by kernel_rfl) (by kernel_rfl) (fun _ _ _ _ h => h) rfl ?_; apply Exists.intro; refine ⟨fun w1 hw1 => ?_, ?_⟩; (· (go_simp; rfl)); simp only [Act.put, List.setIfInBounds_toArray, List.set_cons_zero, List.set_cons_succ]
        refine anyR_val Later.pre 7 rfl (by kernel_rfl) (by kernel_rfl) (by kernel_rfl) (fun _ _ _ _ h => h) rfl ?_; apply Exists.intro; refine ⟨fun w1 hw1 => ?_, ?_⟩; (· (go_simp; rfl)); simp only [Act.put, List.setIfInBounds_toArray, List.set_cons_zero, List.set_cons_succ]
        refine anyR_done (by kernel_rfl) (fun W6 hW6 => ?_)
        have hB6 := hbel W6 hW6
        clear hbel
        go_wp2_with fail
        go_meet
        rw [hrow, h]
        refine ⟨?_, hB6⟩
        first | rfl | kernel_rfl
    case rest =>
      obtain ⟨rfl, hbx⟩ := hcut
      clear hL hrow
      generalize hr : (row7 s)[(nws b fl).toNat]?.getD 0 = r
      have HR := hide hr
      clear hr
      go_wp2_with fail
      exact bodyPost_ret (v := .tuple #[.int .i64 r, .bool (r != 0)]) (by simp [results, Try.results9, go_sem]) rfl ⟨by rw [HR.out], hbx⟩
end Go.Proofs.Ytbkggohjbigbgaa
