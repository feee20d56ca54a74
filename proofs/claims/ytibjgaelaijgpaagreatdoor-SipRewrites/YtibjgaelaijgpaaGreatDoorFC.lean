/- Package written: small, SameWord. -/
import Derived.Test.YtibjgaelaijgpaaGreatDoorFB
import Derived.Deep.DeepCutAuto
import Derived.Deep.CutBlock
namespace Go.Proofs.YtibjgaelaijgpaaGreatDoor
open Go.RowKit Go.Shelf
set_option maxRecDepth 100000
set_option linter.unusedVariables false
set_option linter.unusedSimpArgs false

/-- A letter made small. -/
def sml (c : Int) : Int := if 65 ≤ c ∧ c ≤ 90 then c + 32 else c
theorem small_any (c : Int) (w : World) (hc : 0 ≤ c ∧ c ≤ 255) : Calls Tryz.prog 75 #[.int .u8 c] w fun e w' => e = .returned (.int .u8 (sml c)) ∧ Later w w' := by
  have HV : Hid ((65 ≤ c ∧ c ≤ 90 → sml c = c + 32) ∧ (¬ (65 ≤ c ∧ c ≤ 90) → sml c = c)) := ⟨fun h => if_pos h, fun h => if_neg h⟩
  obtain ⟨hc1, hc2⟩ := hc
  generalize sml c = z at *
  go_enter Tryz.func75, Tryz.ntmps75
  by_cases h1 : 65 ≤ c
  · by_cases h2 : c ≤ 90
    · have hz := HV.out.1 ⟨h1, h2⟩
      subst hz
      go_wp2_with fail
      go_ret
      exact ⟨by first | rfl | (simp; omega), Later.refl _⟩
    · have hz := HV.out.2 (by omega)
      subst hz
      go_wp2_with fail
      go_ret
      exact ⟨rfl, Later.refl _⟩
  · have hz := HV.out.2 (by omega)
    subst hz
    go_wp2_with fail
    go_ret
    exact ⟨rfl, Later.refl _⟩
/-- The same, letters large or small, from a place on. -/
def swP (s t : ByteArray) : Nat → Nat → Bool
  | 0, _ => true
  | k + 1, pos => if sml (bAt s pos) = sml (bAt t pos) then swP s t k (pos + 1) else false
def swV (s t : ByteArray) : Bool := decide (s.size = t.size) && swP s t s.size 0

set_option maxHeartbeats 8000000 in
theorem sameWord_any (s t : ByteArray) (w : World) (hs : s.size ≤ 9223372036854775807) : Calls Tryz.prog 60 #[.string s, .string t] w fun e w' => e = .returned (.bool (swV s t)) ∧ Later w w' := by
  by_cases hst : s.size = t.size
  · have HV : Hid (swV s t = swP s t s.size 0) := by show _ = _; unfold swV; simp [hst]
    have hb : ((s.size : Int) != (t.size : Int)) = false := by simp [hst]
    have HST := hide hst
    clear hst
    generalize swV s t = z at *
    go_enter Tryz.func60, Tryz.ntmps60
    go_wp2_with fail
    clear hb
    go_loopw [13] (fun iv wr => ∃ pos : Nat, pos ≤ s.size ∧ iv = .int .i64 (pos : Int) ∧ Later w wr ∧ swP s t (s.size - pos) pos = swP s t s.size 0) (fun iv _ => s.size - (intOf iv).toNat)
    case atStart => exact ⟨0, by omega, rfl, Later.refl _, rfl⟩
    case round =>
      obtain ⟨pos, hp, rfl, lw, hsw⟩ := hrel
      have HSW := hide hsw
      clear hsw
      by_cases hlt : pos < s.size
      · have hlt1 : (pos : Int) < s.size := by omega
        have hlt2 : (pos : Int) < t.size := by have := HST.out; omega
        have hlt3 : pos < t.size := by have := HST.out; omega
        have HS2 : Hid (swP s t (s.size - pos) pos = if sml (bAt s pos) = sml (bAt t pos) then swP s t (s.size - (pos + 1)) (pos + 1) else false) := by
          show _ = _
          rw [show s.size - pos = (s.size - (pos + 1)) + 1 by omega]
          rfl
        go_upto_region 6 with fail
        refine anyR_begin Later.pre Later.drew 9 rfl (by kernel_rfl) ?_
        intro Wd hWd
        refine anyR_val Later.pre 0 rfl (by kernel_rfl) (by kernel_rfl) (by kernel_rfl) (fun _ _ _ _ h => h) rfl ?_; apply Exists.intro; refine ⟨fun v1 hv1 => ?_, ?_⟩; (· (go_simp; rfl)); simp only [Act.put, List.setIfInBounds_toArray, List.set_cons_zero, List.set_cons_succ]
        refine anyR_val Later.pre 1 rfl (by kernel_rfl) (by kernel_rfl) (by kernel_rfl) (fun _ _ _ _ h => h) rfl ?_; apply Exists.intro; refine ⟨fun v1 hv1 => ?_, ?_⟩; (· (go_simp; rfl)); simp only [Act.put, List.setIfInBounds_toArray, List.set_cons_zero, List.set_cons_succ]
        refine anyR_val Later.pre 2 rfl (by kernel_rfl) (by kernel_rfl) (by kernel_rfl) (fun _ _ _ _ h => h) rfl ?_; apply Exists.intro; refine ⟨fun v1 hv1 => ?_, ?_⟩; (· (go_simp; rfl)); simp only [Act.put, List.setIfInBounds_toArray, List.set_cons_zero, List.set_cons_succ]
        refine anyR_val Later.pre 4 rfl (by kernel_rfl) (by kernel_rfl) (by kernel_rfl) (fun _ _ _ _ h => h) rfl ?_; apply Exists.intro; refine ⟨fun v1 hv1 => ?_, ?_⟩; (· (go_simp; rfl)); simp only [Act.put, List.setIfInBounds_toArray, List.set_cons_zero, List.set_cons_succ]
        refine anyR_val Later.pre 5 rfl (by kernel_rfl) (by kernel_rfl) (by kernel_rfl) (fun _ _ _ _ h => h) rfl ?_; apply Exists.intro; refine ⟨fun v1 hv1 => ?_, ?_⟩; (· (go_simp; rfl)); simp only [Act.put, List.setIfInBounds_toArray, List.set_cons_zero, List.set_cons_succ]
        refine anyR_val Later.pre 6 rfl (by kernel_rfl) (by kernel_rfl) (by kernel_rfl) (fun _ _ _ _ h => h) rfl ?_; apply Exists.intro; refine ⟨fun v1 hv1 => ?_, ?_⟩; (· (go_simp; rfl)); simp only [Act.put, List.setIfInBounds_toArray, List.set_cons_zero, List.set_cons_succ]
        have es : ((s[pos]'hlt).toNat : Int) = bAt s pos := by unfold bAt; simp [ByteArray.get!, getElem!_pos, hlt]; rfl
        have et : ((t[pos]'hlt3).toNat : Int) = bAt t pos := by unfold bAt; simp [ByteArray.get!, getElem!_pos, hlt3]; rfl
        simp only [es, et]
        clear es et
        have hbs := bAt_rng s pos
        have hbt := bAt_rng t pos
        generalize bAt s pos = x at *
        generalize bAt t pos = y at *
        refine anyR_take Later.pre 3 (.int .u8 (sml x)) rfl (by kernel_rfl) (by kernel_rfl) (by kernel_rfl) (fun _ _ _ h => h) rfl (fun w1 hw1 => goes_call 75 #[.int .u8 x] (by go_simp) (small_any x w1 hbs)) ?_
        simp only [Act.put, List.setIfInBounds_toArray, List.set_cons_zero, List.set_cons_succ]
        refine anyR_take Later.pre 7 (.int .u8 (sml y)) rfl (by kernel_rfl) (by kernel_rfl) (by kernel_rfl) (fun _ _ _ h => h) rfl (fun w1 hw1 => goes_call 75 #[.int .u8 y] (by go_simp) (small_any y w1 hbt)) ?_
        simp only [Act.put, List.setIfInBounds_toArray, List.set_cons_zero, List.set_cons_succ]
        by_cases hxy : sml x = sml y
        · have hne : (sml x != sml y) = false := by simp [hxy]
          have HS3 : Hid (swP s t (s.size - pos) pos = swP s t (s.size - (pos + 1)) (pos + 1)) := by show _ = _; rw [HS2.out, if_pos hxy]
          clear hxy
          refine anyR_val Later.pre 8 rfl (by kernel_rfl) (by kernel_rfl) (by kernel_rfl) (fun _ _ _ _ h => h) rfl ?_; apply Exists.intro; refine ⟨fun v1 hv1 => ?_, ?_⟩; (· (go_simp; rfl)); simp only [Act.put, List.setIfInBounds_toArray, List.set_cons_zero, List.set_cons_succ]
          refine anyR_done (by kernel_rfl) (fun VD hVD => ?_)
          go_wp2_with fail
          go_roundw
          case rel => exact ⟨pos + 1, by omega, by simp, lw.trans (hWd.trans hVD), by rw [← HS3.out]; exact HSW.out⟩
          case measure => simp [intOf]; omega
        · have hne : (sml x != sml y) = true := by simp [bne, hxy]
          have HZ : Hid (z = false) := by show _ = _; rw [HV.out, ← HSW.out, HS2.out, if_neg hxy]
          clear hxy
          refine anyR_val Later.pre 8 rfl (by kernel_rfl) (by kernel_rfl) (by kernel_rfl) (fun _ _ _ _ h => h) rfl ?_; apply Exists.intro; refine ⟨fun v1 hv1 => ?_, ?_⟩; (· (go_simp; rfl)); simp only [Act.put, List.setIfInBounds_toArray, List.set_cons_zero, List.set_cons_succ]
          refine anyR_done (by kernel_rfl) (fun VD hVD => ?_)
          go_wp2_with fail
          refine bodyPost_ret (v := .bool false) (by simp [results, Tryz.results60, go_sem]) rfl ?_
          exact ⟨by rw [HZ.out], lw.trans (hWd.trans hVD)⟩
      · have hlt1 : ¬ (pos : Int) < s.size := by omega
        have HZ : Hid (z = true) := by show _ = _; rw [HV.out, ← HSW.out, show s.size - pos = 0 by omega]; rfl
        go_wp2_with fail
        refine bodyPost_ret (v := .bool true) (by simp [results, Tryz.results60, go_sem]) rfl ?_
        exact ⟨by rw [HZ.out], lw⟩
  · have HV : Hid (swV s t = false) := by show _ = _; unfold swV; simp [hst]
    have hb : ((s.size : Int) != (t.size : Int)) = true := by simp [bne]; omega
    clear hst
    generalize swV s t = z at *
    go_enter Tryz.func60, Tryz.ntmps60
    go_wp2_with fail
    go_ret
    exact ⟨by rw [HV.out]; rfl, Later.refl _⟩
end Go.Proofs.YtibjgaelaijgpaaGreatDoor
