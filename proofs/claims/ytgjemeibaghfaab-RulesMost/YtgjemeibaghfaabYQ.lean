/- The document's Drop; whether rules are the same. -/
import Derived.Test.YtgjemeibaghfaabYP
namespace Go.Proofs.Ytgjemeibaghfaab
open Go.RowKit Go.Shelf
set_option maxRecDepth 100000
set_option linter.unusedVariables false
set_option linter.unusedSimpArgs false

theorem list_ext_at {l m : List Ru} (hl : l.length = m.length) (h : ∀ j (hj : j < l.length) (hj2 : j < m.length), l[j] = m[j]) : l = m := List.ext_getElem hl h

set_option maxHeartbeats 4000000 in
theorem same9_any (n₀ n₁ : Nat) (va vb : Value) (la lb : List Ru) (w : World) (hA : RdQ n₀ w va la) (hB : RdQ n₁ w vb lb) (h0 : n₀ ≤ w.heap.size) (h1 : n₁ ≤ w.heap.size) :
    Calls Try.prog 10 #[va, vb] w fun e w' => e = .returned (.bool (decide (la = lb))) ∧ Later w w' := by
  obtain ⟨aa, ca, rfl, ha1, ha2⟩ := hA.slice
  obtain ⟨ab, cb, rfl, hb1, hb2⟩ := hB.slice
  have HA := hide hA
  have HB := hide hB
  clear hA hB
  go_enter Try.func10, Try.ntmps10
  by_cases hl : la.length = lb.length
  · have hl' : (la.length : Int) = lb.length := by omega
    have HL := hide hl
    have HL' : Hid (lb.length = la.length) := hl.symm
    clear hl hl'
    rw [HL'.out]
    go_wp2_with fail
    go_loopw [5] (fun i wr => ∃ k : Nat, k ≤ la.length ∧ i = .int .i64 (k : Int) ∧ (∀ j (hj : j < la.length) (hj2 : j < lb.length), j < k → la[j] = lb[j]) ∧ Later w wr) (fun i _ => la.length - (intOf i).toNat)
    case atStart => exact ⟨0, by omega, rfl, fun j _ _ h => by omega, Later.refl _⟩
    case round =>
      obtain ⟨k, hk, rfl, hz, hbw⟩ := hrel
      have HZ := hide hz
      clear hz
      by_cases hlt : k < la.length
      · have hlt' : (k : Int) < la.length := by omega
        have hlt2 : k < lb.length := by rw [← HL.out]; exact hlt
        go_upto_region 6 with fail
        refine anyT_begin (R := But (fun _ => False)) 9 rfl (by kernel_rfl) ?_
        have ld : Later wr wr.drew := Later.drew wr
        have lwd := hbw.trans ld
        generalize wr.drew = Wd at *
        have hsz := lwd.size
        obtain ⟨ba, offa, cp, e, _, _, hba, hcsa⟩ := (HA.out.below (lwd.mono h0)).cells (by omega)
        simp at e
        obtain ⟨rfl, rfl⟩ := e
        obtain ⟨bb, offb, cp, e, _, _, hbb, hcsb⟩ := (HB.out.below (lwd.mono h1)).cells (by omega)
        simp [HL'.out] at e
        obtain ⟨rfl, rfl⟩ := e
        generalize hga : la[k] = x at *
        generalize hgb : lb[k] = y at *
        have hca : ∀ i, i < 8 → ∀ v1, But (fun _ => False) Wd v1 → v1.cell? ⟨ba, offa + k * 8 + i, none⟩ = (ruc x)[i]? := fun i hi v1 hv => (Below.cell (B := Wd.heap.size) hv.laterF (p := ⟨ba, offa + k * 8 + i, none⟩) (by simp only; omega)).trans (by have := hcsa k hlt i hi; rw [hga] at this; exact this)
        have hcb : ∀ i, i < 8 → ∀ v1, But (fun _ => False) Wd v1 → v1.cell? ⟨bb, offb + k * 8 + i, none⟩ = (ruc y)[i]? := fun i hi v1 hv => (Below.cell (B := Wd.heap.size) hv.laterF (p := ⟨bb, offb + k * 8 + i, none⟩) (by simp only; omega)).trans (by have := hcsb k hlt2 i hi; rw [hgb] at this; exact this)
        have c0 := hca 0 (by omega)
        have c1 := hca 1 (by omega)
        have c2 := hca 2 (by omega)
        have c3 := hca 3 (by omega)
        have c4 := hca 4 (by omega)
        have c5 := hca 5 (by omega)
        have c6 := hca 6 (by omega)
        have c7 := hca 7 (by omega)
        have e0 := hcb 0 (by omega)
        have e1 := hcb 1 (by omega)
        have e2 := hcb 2 (by omega)
        have e3 := hcb 3 (by omega)
        have e4 := hcb 4 (by omega)
        have e5 := hcb 5 (by omega)
        have e6 := hcb 6 (by omega)
        have e7 := hcb 7 (by omega)
        have HGA := hide hga
        have HGB := hide hgb
        clear hca hcb hcsa hcsb hga hgb
        simp only [ruc, List.getElem?_cons_zero, List.getElem?_cons_succ, Nat.add_zero] at c0 c1 c2 c3 c4 c5 c6 c7 e0 e1 e2 e3 e4 e5 e6 e7
        refine anyT_val (But.pre _) 0 rfl (by kernel_rfl) (by kernel_rfl) (by kernel_rfl) (fun _ _ _ _ h => h) rfl ?_; apply Exists.intro; refine ⟨fun v1 hv1 => ?_, ?_⟩; (· (go_simp; rfl)); simp only [Act.put, List.setIfInBounds_toArray, List.set_cons_zero, List.set_cons_succ]
        refine anyT_val (But.pre _) 1 rfl (by kernel_rfl) (by kernel_rfl) (by kernel_rfl) (fun _ _ _ _ h => h) rfl ?_; apply Exists.intro; refine ⟨fun v1 hv1 => ?_, ?_⟩; (· (go_simp; rfl)); simp only [Act.put, List.setIfInBounds_toArray, List.set_cons_zero, List.set_cons_succ]
        refine anyT_val (But.pre _) 2 rfl (by kernel_rfl) (by kernel_rfl) (by kernel_rfl) (fun _ _ _ _ h => h) rfl ?_; apply Exists.intro; refine ⟨fun v1 hv1 => ?_, ?_⟩; (· (go_simp; rfl)); simp only [Act.put, List.setIfInBounds_toArray, List.set_cons_zero, List.set_cons_succ]
        refine anyT_val (But.pre _) 3 rfl (by kernel_rfl) (by kernel_rfl) (by kernel_rfl) (fun _ _ _ _ h => h) rfl ?_; apply Exists.intro; refine ⟨fun v1 hv1 => ?_, ?_⟩; (· (go_simp; rfl)); simp only [Act.put, List.setIfInBounds_toArray, List.set_cons_zero, List.set_cons_succ]
        refine anyT_val (But.pre _) 4 rfl (by kernel_rfl) (by kernel_rfl) (by kernel_rfl) (fun _ _ _ _ h => h) rfl ?_; apply Exists.intro; refine ⟨fun v1 hv1 => ?_, ?_⟩; (· (go_simp; rfl)); simp only [Act.put, List.setIfInBounds_toArray, List.set_cons_zero, List.set_cons_succ]
        refine anyT_val (But.pre _) 5 rfl (by kernel_rfl) (by kernel_rfl) (by kernel_rfl) (fun _ _ _ _ h => h) rfl ?_; apply Exists.intro; refine ⟨fun v1 hv1 => ?_, ?_⟩; (· (go_simp; rfl)); simp only [Act.put, List.setIfInBounds_toArray, List.set_cons_zero, List.set_cons_succ]
        refine anyT_val (But.pre _) 6 rfl (by kernel_rfl) (by kernel_rfl) (by kernel_rfl) (fun _ _ _ _ h => h) rfl ?_; apply Exists.intro; refine ⟨fun v1 hv1 => ?_, ?_⟩; (· (go_simp; rfl)); simp only [Act.put, List.setIfInBounds_toArray, List.set_cons_zero, List.set_cons_succ]
        refine anyT_val (But.pre _) 7 rfl (by kernel_rfl) (by kernel_rfl) (by kernel_rfl) (fun _ _ _ _ h => h) rfl ?_; apply Exists.intro; refine ⟨fun v1 hv1 => ?_, ?_⟩; (· (go_simp; rfl)); simp only [Act.put, List.setIfInBounds_toArray, List.set_cons_zero, List.set_cons_succ]
        refine anyT_val (But.pre _) 8 rfl (by kernel_rfl) (by kernel_rfl) (by kernel_rfl) (fun _ _ _ _ h => h) rfl ⟨.bool (!decide (x = y)), fun v1 hv1 => ?_, ?_⟩
        · exact exec_neq _ _ (.tmp 20) (.tmp 24) _ rfl x y rfl rfl v1
        simp only [Act.put, List.setIfInBounds_toArray, List.set_cons_zero, List.set_cons_succ]
        refine anyT_done (by kernel_rfl) ?_
        clear c0 c1 c2 c3 c4 c5 c6 c7 e0 e1 e2 e3 e4 e5 e6 e7
        by_cases hxy : x = y
        · rw [decide_eq_true hxy]
          have HXY := hide hxy
          clear hxy
          go_wp2_with fail
          go_roundw
          case rel => exact ⟨k + 1, by omega, by go_num, fun j hj hj2 hjk => by by_cases h : j = k; (subst h; rw [HGA.out, HGB.out]; exact HXY.out); exact HZ.out j hj hj2 (by omega), lwd⟩
          case measure => simp [intOf]; omega
        · rw [decide_eq_false hxy]
          have HXY := hide hxy
          clear hxy
          go_wp2_with fail
          go_ret
          refine ⟨?_, lwd⟩
          rw [decide_eq_false (fun e => HXY.out (by rw [← HGA.out, ← HGB.out]; exact getElem_congr e rfl hlt))]
          rfl
      · obtain rfl : k = la.length := by omega
        go_wp2_with fail
        go_ret
        refine ⟨?_, hbw⟩
        rw [decide_eq_true (list_ext_at HL.out (fun j hj hj2 => HZ.out j hj hj2 hj))]
        rfl
  · have hl' : ¬ (la.length : Int) = lb.length := by omega
    go_wp2_with fail
    go_ret
    exact ⟨by rw [decide_eq_false (fun e => hl (by rw [e]))]; rfl, Later.refl _⟩
end Go.Proofs.Ytgjemeibaghfaab
