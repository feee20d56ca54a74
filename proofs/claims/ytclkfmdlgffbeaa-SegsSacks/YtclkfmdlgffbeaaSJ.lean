/- Package segs: the walk over a header's options. -/
import Derived.ScopeJumps
import Derived.Test.YtclkfmdlgffbeaaSI
import Derived.Test.YtclkfmdlgffbeaaRx
namespace Go.Proofs.Ytclkfmdlgffbeaa
open Go.RowKit Go.Shelf
set_option maxRecDepth 100000
attribute [local go_sem] Oper.semAt_some
set_option linter.unusedVariables false
set_option linter.unusedSimpArgs false

theorem uncons {α : Type} {n : Nat} {l : List α} (h : l.length = n + 1) : ∃ a r, l = a :: r ∧ r.length = n := by
  cases l with
  | nil => simp at h
  | cons a r => exact ⟨a, r, rfl, by simpa using h⟩
theorem list49 {α : Type} {l : List α} (h : l.length = 49) : ∃ v0 v1 v2 v3 v4 v5 v6 v7 v8 v9 v10 v11 v12 v13 v14 v15 v16 v17 v18 v19 v20 v21 v22 v23 v24 v25 v26 v27 v28 v29 v30 v31 v32 v33 v34 v35 v36 v37 v38 v39 v40 v41 v42 v43 v44 v45 v46 v47 v48, l = [v0, v1, v2, v3, v4, v5, v6, v7, v8, v9, v10, v11, v12, v13, v14, v15, v16, v17, v18, v19, v20, v21, v22, v23, v24, v25, v26, v27, v28, v29, v30, v31, v32, v33, v34, v35, v36, v37, v38, v39, v40, v41, v42, v43, v44, v45, v46, v47, v48] := by
  obtain ⟨v0, l0, rfl, h0⟩ := uncons h
  obtain ⟨v1, l1, rfl, h1⟩ := uncons h0
  obtain ⟨v2, l2, rfl, h2⟩ := uncons h1
  obtain ⟨v3, l3, rfl, h3⟩ := uncons h2
  obtain ⟨v4, l4, rfl, h4⟩ := uncons h3
  obtain ⟨v5, l5, rfl, h5⟩ := uncons h4
  obtain ⟨v6, l6, rfl, h6⟩ := uncons h5
  obtain ⟨v7, l7, rfl, h7⟩ := uncons h6
  obtain ⟨v8, l8, rfl, h8⟩ := uncons h7
  obtain ⟨v9, l9, rfl, h9⟩ := uncons h8
  obtain ⟨v10, l10, rfl, h10⟩ := uncons h9
  obtain ⟨v11, l11, rfl, h11⟩ := uncons h10
  obtain ⟨v12, l12, rfl, h12⟩ := uncons h11
  obtain ⟨v13, l13, rfl, h13⟩ := uncons h12
  obtain ⟨v14, l14, rfl, h14⟩ := uncons h13
  obtain ⟨v15, l15, rfl, h15⟩ := uncons h14
  obtain ⟨v16, l16, rfl, h16⟩ := uncons h15
  obtain ⟨v17, l17, rfl, h17⟩ := uncons h16
  obtain ⟨v18, l18, rfl, h18⟩ := uncons h17
  obtain ⟨v19, l19, rfl, h19⟩ := uncons h18
  obtain ⟨v20, l20, rfl, h20⟩ := uncons h19
  obtain ⟨v21, l21, rfl, h21⟩ := uncons h20
  obtain ⟨v22, l22, rfl, h22⟩ := uncons h21
  obtain ⟨v23, l23, rfl, h23⟩ := uncons h22
  obtain ⟨v24, l24, rfl, h24⟩ := uncons h23
  obtain ⟨v25, l25, rfl, h25⟩ := uncons h24
  obtain ⟨v26, l26, rfl, h26⟩ := uncons h25
  obtain ⟨v27, l27, rfl, h27⟩ := uncons h26
  obtain ⟨v28, l28, rfl, h28⟩ := uncons h27
  obtain ⟨v29, l29, rfl, h29⟩ := uncons h28
  obtain ⟨v30, l30, rfl, h30⟩ := uncons h29
  obtain ⟨v31, l31, rfl, h31⟩ := uncons h30
  obtain ⟨v32, l32, rfl, h32⟩ := uncons h31
  obtain ⟨v33, l33, rfl, h33⟩ := uncons h32
  obtain ⟨v34, l34, rfl, h34⟩ := uncons h33
  obtain ⟨v35, l35, rfl, h35⟩ := uncons h34
  obtain ⟨v36, l36, rfl, h36⟩ := uncons h35
  obtain ⟨v37, l37, rfl, h37⟩ := uncons h36
  obtain ⟨v38, l38, rfl, h38⟩ := uncons h37
  obtain ⟨v39, l39, rfl, h39⟩ := uncons h38
  obtain ⟨v40, l40, rfl, h40⟩ := uncons h39
  obtain ⟨v41, l41, rfl, h41⟩ := uncons h40
  obtain ⟨v42, l42, rfl, h42⟩ := uncons h41
  obtain ⟨v43, l43, rfl, h43⟩ := uncons h42
  obtain ⟨v44, l44, rfl, h44⟩ := uncons h43
  obtain ⟨v45, l45, rfl, h45⟩ := uncons h44
  obtain ⟨v46, l46, rfl, h46⟩ := uncons h45
  obtain ⟨v47, l47, rfl, h47⟩ := uncons h46
  obtain ⟨v48, l48, rfl, h48⟩ := uncons h47
  obtain rfl : l48 = [] := List.eq_nil_of_length_eq_zero h48
  exact ⟨v0, v1, v2, v3, v4, v5, v6, v7, v8, v9, v10, v11, v12, v13, v14, v15, v16, v17, v18, v19, v20, v21, v22, v23, v24, v25, v26, v27, v28, v29, v30, v31, v32, v33, v34, v35, v36, v37, v38, v39, v40, v41, v42, v43, v44, v45, v46, v47, v48, rfl⟩

set_option maxHeartbeats 1000000 in
theorem notZero_any (x : Int) (w : World) : Calls Try.prog 73 #[.int .u8 x] w fun e w' => e = .returned (.bool (x != 0)) ∧ w' = w := by
  go_enter Try.func73, Try.ntmps73
  go_wp2
  go_ret
  exact ⟨rfl, rfl⟩

set_option maxHeartbeats 1000000 in
theorem idxb_any (n₀ : Nat) (sv : Value) (zs : List Int) (w : World) (hI : Rd n₀ w sv zs) (hl : zs.length ≤ 140737488355328) :
    Calls Try.prog 75 #[sv, .func (.func 73) #[] #[]] w fun e w' => w' = w ∧ (((∀ x ∈ zs, x = 0) ∧ e = .returned (.int .i64 (-1))) ∨ ((¬ ∀ x ∈ zs, x = 0) ∧ ∃ k : Nat, k < zs.length ∧ e = .returned (.int .i64 (k : Int)))) := by
  obtain ⟨a, cap, rfl, hc1, hc2⟩ := hI.slice
  go_enter Try.func75, Try.ntmps75
  go_wp2
  go_loopw [8] (fun i wr => ∃ k : Nat, k ≤ zs.length ∧ i = .int .i64 (k : Int) ∧ (∀ j, j < k → zs[j]?.getD 0 = 0) ∧ wr = w) (fun i _ => zs.length - (intOf i).toNat)
  case atStart => exact ⟨0, by omega, rfl, fun j h => by omega, rfl⟩
  case round =>
    obtain ⟨k, hk, rfl, hz, rfl⟩ := hrel
    by_cases hlt : k < zs.length
    · obtain ⟨b, off, cp, e, _, _, hbb, hcs⟩ := hI.cells (by omega)
      simp at e
      obtain ⟨rfl, rfl⟩ := e
      have c0 := hcs k hlt
      have hlt' : (k : Int) < zs.length := by omega
      have HX : Hid (zs[k]?.getD 0 = zs[k]?.getD 0) := rfl
      generalize hx : zs[k]?.getD 0 = x at c0
      have HXX := hide hx
      have HZ := hide hz
      clear hx hcs hz
      go_wp2_with fail
      refine (notZero_any x _).mono ?_
      rintro e w' ⟨rfl, rfl⟩
      cases hx0 : (x != 0) with
      | true =>
        have hne : x ≠ 0 := by simpa using hx0
        clear hx0
        go_wp2_with fail
        go_ret
        refine ⟨rfl, .inr ⟨fun h => hne ?_, k, hlt, rfl⟩⟩
        rw [← HXX.out]
        have := h (zs[k]?.getD 0) (by simp [hlt])
        exact this
      | false =>
        have hne : x = 0 := by simpa using hx0
        have HNE := hide hne
        clear hx0 hne
        go_wp2_with fail
        go_roundw
        case rel => exact ⟨k + 1, by omega, by go_num, fun j hj => by by_cases h : j = k; (subst h; rw [HXX.out]; exact HNE.out); exact HZ.out j (by omega), trivial⟩
        case measure => simp [intOf]; omega
    · obtain rfl : k = zs.length := by omega
      have HZ := hide hz
      clear hz
      go_wp2_with fail
      go_ret
      refine ⟨rfl, .inl ⟨fun x hx => ?_, rfl⟩⟩
      obtain ⟨j, hj, rfl⟩ := List.getElem_of_mem hx
      have := HZ.out j hj
      simpa [hj] using this

def azb (zs : List Int) : Bool := decide (∀ x ∈ zs, x = 0)
set_option maxHeartbeats 1000000 in
theorem blank_any (n₀ : Nat) (sv : Value) (zs : List Int) (w : World) (hI : Rd n₀ w sv zs) (hl : zs.length ≤ 140737488355328) :
    Calls Try.prog 65 #[sv] w fun e w' => e = .returned (.bool (azb zs)) ∧ w' = w := by
  obtain ⟨a, cap, rfl, hc1, hc2⟩ := hI.slice
  have hcf : Calls Try.prog 72 #[.slice a zs.length cap, .func (.func 73) #[] #[]] w fun e w' => e = .returned (.bool (!azb zs)) ∧ w' = w := by
    go_enter Try.func72, Try.ntmps72
    go_wp2_with fail
    refine (idxb_any n₀ _ zs w hI hl).mono ?_
    rintro e w' ⟨rfl, ⟨hz, rfl⟩ | ⟨hz, k, hk, rfl⟩⟩
    · go_wp2
      go_ret
      exact ⟨by unfold azb; rw [decide_eq_true hz]; rfl, rfl⟩
    · go_wp2
      go_ret
      refine ⟨?_, rfl⟩
      unfold azb
      rw [decide_eq_false hz]
      simp
  go_enter Try.func65, Try.ntmps65
  go_wp2_with fail
  refine hcf.mono ?_
  rintro e w' ⟨rfl, rfl⟩
  go_wp2
  go_ret
  exact ⟨by simp, rfl⟩
end Go.Proofs.Ytclkfmdlgffbeaa
