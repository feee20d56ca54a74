/- The document's kinds of messages; the walk of the law CtrlKinds. -/
import Derived.Test.YtejkonnbpjocoacDoorCE
namespace Go.Proofs.YtejkonnbpjocoacDoor
open Go.RowKit Go.Shelf
set_option maxRecDepth 100000
set_option linter.unusedVariables false
set_option linter.unusedSimpArgs false

set_option maxHeartbeats 1000000 in
theorem risError_any (ty cde rest : Int) (sm : Value) (w : World) :
    Calls Tryd.prog 23 #[.agg #[.int .u8 ty, .int .u8 cde, .int .u32 rest, sm]] w fun e w' => e = .returned (.bool (ty == 3 || (ty == 11 || ty == 12))) ∧ Below w.heap.size w w' := by
  have hbox : Below w.heap.size w (w.alloc (.cells #[.int .u8 ty, .int .u8 cde, .int .u32 rest, sm] 28)) := (Below.refl _ _).alloc (Nat.le_refl _) _
  cases h1 : (ty == 3)
  · cases h2 : (ty == 11)
    · cases h3 : (ty == 12)
      · go_enter Tryd.func23, Tryd.ntmps23
        go_wp2
        go_ret
        exact ⟨by simp, hbox⟩
      · go_enter Tryd.func23, Tryd.ntmps23
        go_wp2
        go_ret
        exact ⟨by simp, hbox⟩
    · go_enter Tryd.func23, Tryd.ntmps23
      go_wp2
      go_ret
      exact ⟨by simp, hbox⟩
  · go_enter Tryd.func23, Tryd.ntmps23
    go_wp2
    go_ret
    exact ⟨by simp, hbox⟩

set_option maxHeartbeats 1000000 in
theorem risEcho_any (ty cde rest : Int) (sm : Value) (w : World) :
    Calls Tryd.prog 24 #[.agg #[.int .u8 ty, .int .u8 cde, .int .u32 rest, sm]] w fun e w' => e = .returned (.bool ((ty == 8 || ty == 0) && cde == 0)) ∧ Below w.heap.size w w' := by
  have hbox : Below w.heap.size w (w.alloc (.cells #[.int .u8 ty, .int .u8 cde, .int .u32 rest, sm] 28)) := (Below.refl _ _).alloc (Nat.le_refl _) _
  cases h3 : (cde == 0)
  · cases h1 : (ty == 8)
    · cases h2 : (ty == 0)
      · go_enter Tryd.func24, Tryd.ntmps24
        go_wp2
        go_ret
        exact ⟨by simp, hbox⟩
      · go_enter Tryd.func24, Tryd.ntmps24
        go_wp2
        go_ret
        exact ⟨by simp, hbox⟩
    · go_enter Tryd.func24, Tryd.ntmps24
      go_wp2
      go_ret
      exact ⟨by simp, hbox⟩
  · cases h1 : (ty == 8)
    · cases h2 : (ty == 0)
      · go_enter Tryd.func24, Tryd.ntmps24
        go_wp2
        go_ret
        exact ⟨by simp, hbox⟩
      · go_enter Tryd.func24, Tryd.ntmps24
        go_wp2
        go_ret
        exact ⟨by simp, hbox⟩
    · go_enter Tryd.func24, Tryd.ntmps24
      go_wp2
      go_ret
      exact ⟨by simp, hbox⟩

set_option maxHeartbeats 1000000 in
theorem rasks_any (ty cde rest : Int) (sm : Value) (w : World) :
    Calls Tryd.prog 25 #[.agg #[.int .u8 ty, .int .u8 cde, .int .u32 rest, sm]] w fun e w' => e = .returned (.bool (ty == 8 && cde == 0)) ∧ Below w.heap.size w w' := by
  have hbox : Below w.heap.size w (w.alloc (.cells #[.int .u8 ty, .int .u8 cde, .int .u32 rest, sm] 28)) := (Below.refl _ _).alloc (Nat.le_refl _) _
  cases h1 : (ty == 8)
  · go_enter Tryd.func25, Tryd.ntmps25
    go_wp2
    go_ret
    exact ⟨by simp, hbox⟩
  · go_enter Tryd.func25, Tryd.ntmps25
    go_wp2
    go_ret
    exact ⟨by simp, hbox⟩

set_option maxHeartbeats 4000000 in
theorem walk_CtrlKinds (w : World) (hT : Tb w) (ty cde rest : Int) (sm : Value) (zd : List Int) (hBd : Mt.By zd) (hId : Rd w.heap.size w sm zd) (hld : zd.length ≤ 140737488351232) (hty : 0 ≤ ty ∧ ty ≤ 255) (hcd : 0 ≤ cde ∧ cde ≤ 255) (hre : 0 ≤ rest ∧ rest ≤ 4294967295) :
    Calls Tryd.prog 5 #[.agg #[.int .u8 ty, .int .u8 cde, .int .u32 rest, sm]] w fun e w' => e = .returned (.bool true) ∧ Below w.heap.size w w' := by
  have hbox : Below w.heap.size w (w.alloc (.cells #[.int .u8 ty, .int .u8 cde, .int .u32 rest, sm] 28)) := (Below.refl _ _).alloc (Nat.le_refl _) _
  have hk := heap_alloc_new w (.cells #[.int .u8 ty, .int .u8 cde, .int .u32 rest, sm] 28)
  have hs : (w.alloc (.cells #[.int .u8 ty, .int .u8 cde, .int .u32 rest, sm] 28)).heap.size = w.heap.size + 1 := by simp
  have HK := hide hk
  have HS := hide hs
  clear hk hs
  obtain ⟨am, cm, rfl, _, _⟩ := hId.slice
  obtain ⟨X, HX⟩ : ∃ X : Bool, Hid ((ty == 3 || (ty == 11 || ty == 12)) = X) := ⟨_, rfl⟩
  obtain ⟨Y, HY⟩ : ∃ Y : Bool, Hid (((ty == 8 || ty == 0) && cde == 0) = Y) := ⟨_, rfl⟩
  obtain ⟨Z, HZ⟩ : ∃ Z : Bool, Hid ((ty == 8 && cde == 0) = Z) := ⟨_, rfl⟩
  have hXY : ¬ (X = true ∧ Y = true) := by rw [← HX.out, ← HY.out]; simp; omega
  have hZY : Z = true → Y = true := by rw [← HZ.out, ← HY.out]; simp; omega
  go_enter Tryd.func5, Tryd.ntmps5
  go_upto_region 1 with fail
  generalize w.alloc (.cells #[.int .u8 ty, .int .u8 cde, .int .u32 rest, .slice am zd.length cm] 28) = W0 at *
  go_cut [3, 4, 5] (fun x y z wx => x = .bool X ∧ y = .bool Y ∧ z = .bool Z ∧ Later W0 wx)
  case first =>
    refine anyR_begin (R := Later) Later.pre Later.drew 9 rfl (by kernel_rfl) (fun W1 hW1 => ?_)
    have hc : ∀ v1, Later W1 v1 → ∀ j, v1.cell? ⟨w.heap.size, j, none⟩ = #[Value.int .u8 ty, .int .u8 cde, .int .u32 rest, .slice am zd.length cm][j]? := fun v1 h => block_cell (((hW1.trans h).block w.heap.size (by have := HS.out; omega)).trans HK.out)
    refine anyR_val Later.pre 0 rfl (by kernel_rfl) (by kernel_rfl) (by kernel_rfl) (fun _ _ _ _ h => h) rfl ?_; apply Exists.intro; refine ⟨fun w1 hw1 => ?_, ?_⟩; (· (go_simp; rfl)); simp only [Act.put, List.setIfInBounds_toArray, List.set_cons_zero, List.set_cons_succ]
    refine anyR_take Later.pre 1 (.bool X) rfl (by kernel_rfl) (by kernel_rfl) (by kernel_rfl) (fun _ _ _ h => h) rfl (fun v1 hv1 => goes_call 20 #[.agg #[.int .u8 ty, .int .u8 cde, .int .u32 rest, .slice am zd.length cm]] (by go_simp) ?_) ?_
    · rw [← HX.out]; exact isError_any ty cde rest _ v1
    simp only [Act.put, List.setIfInBounds_toArray, List.set_cons_zero, List.set_cons_succ]
    refine anyR_val Later.pre 2 rfl (by kernel_rfl) (by kernel_rfl) (by kernel_rfl) (fun _ _ _ _ h => h) rfl ?_; apply Exists.intro; refine ⟨fun w1 hw1 => ?_, ?_⟩; (· (go_simp; rfl)); simp only [Act.put, List.setIfInBounds_toArray, List.set_cons_zero, List.set_cons_succ]
    refine anyR_take Later.pre 3 (.bool Y) rfl (by kernel_rfl) (by kernel_rfl) (by kernel_rfl) (fun _ _ _ h => h) rfl (fun v1 hv1 => goes_call 21 #[.agg #[.int .u8 ty, .int .u8 cde, .int .u32 rest, .slice am zd.length cm]] (by go_simp) ?_) ?_
    · rw [← HY.out]; exact isEcho_any ty cde rest _ v1
    simp only [Act.put, List.setIfInBounds_toArray, List.set_cons_zero, List.set_cons_succ]
    refine anyR_val Later.pre 4 rfl (by kernel_rfl) (by kernel_rfl) (by kernel_rfl) (fun _ _ _ _ h => h) rfl ?_; apply Exists.intro; refine ⟨fun w1 hw1 => ?_, ?_⟩; (· (go_simp; rfl)); simp only [Act.put, List.setIfInBounds_toArray, List.set_cons_zero, List.set_cons_succ]
    refine anyR_take Later.pre 5 (.bool Z) rfl (by kernel_rfl) (by kernel_rfl) (by kernel_rfl) (fun _ _ _ h => h) rfl (fun v1 hv1 => goes_call 22 #[.agg #[.int .u8 ty, .int .u8 cde, .int .u32 rest, .slice am zd.length cm]] (by go_simp) ?_) ?_
    · rw [← HZ.out]; exact asks_any ty cde rest _ v1
    simp only [Act.put, List.setIfInBounds_toArray, List.set_cons_zero, List.set_cons_succ]
    refine anyR_val Later.pre 6 rfl (by kernel_rfl) (by kernel_rfl) (by kernel_rfl) (fun _ _ _ _ h => h) rfl ?_; apply Exists.intro; refine ⟨fun w1 hw1 => ?_, ?_⟩; (· (go_simp; rfl)); simp only [Act.put, List.setIfInBounds_toArray, List.set_cons_zero, List.set_cons_succ]
    refine anyR_val Later.pre 7 rfl (by kernel_rfl) (by kernel_rfl) (by kernel_rfl) (fun _ _ _ _ h => h) rfl ?_; apply Exists.intro; refine ⟨fun w1 hw1 => ?_, ?_⟩; (· (go_simp; rfl)); simp only [Act.put, List.setIfInBounds_toArray, List.set_cons_zero, List.set_cons_succ]
    refine anyR_val Later.pre 8 rfl (by kernel_rfl) (by kernel_rfl) (by kernel_rfl) (fun _ _ _ _ h => h) rfl ?_; apply Exists.intro; refine ⟨fun w1 hw1 => ?_, ?_⟩; (· (go_simp; rfl)); simp only [Act.put, List.setIfInBounds_toArray, List.set_cons_zero, List.set_cons_succ]
    refine anyR_done (by kernel_rfl) (fun W8 hW8 => ?_)
    go_wp2_with fail
    go_meet
    case rel => exact ⟨rfl, rfl, rfl, hW1.trans hW8⟩
  case rest =>
    obtain ⟨rfl, rfl, rfl, hL3⟩ := hcut
    have hw3 := hbox.trans (hL3.mono (by have := HS.out; omega))
    cases X
    · cases Z
      · cases Y
        · go_wp2_with fail
          refine (live4_any _ (hT.below hw3 hT.pos)).mono ?_
          rintro e w4 ⟨rfl, hb4⟩
          have hL4 := hL3.trans hb4
          have K4 := block_cell ((hL4.block w.heap.size (by have := HS.out; omega)).trans HK.out)
          go_wp2_with fail
          refine (risError_any ty cde rest _ _).mono ?_
          rw [HX.out]
          rintro e w5 ⟨rfl, hb5⟩
          have hL5 := hL4.trans hb5
          have K5 := block_cell ((hL5.block w.heap.size (by have := HS.out; omega)).trans HK.out)
          clear K4
          go_wp2_with fail
          refine (risEcho_any ty cde rest _ _).mono ?_
          rw [HY.out]
          rintro e w6 ⟨rfl, hb6⟩
          have hL6 := hL5.trans hb6
          have K6 := block_cell ((hL6.block w.heap.size (by have := HS.out; omega)).trans HK.out)
          clear K5
          go_wp2_with fail
          refine (rasks_any ty cde rest _ _).mono ?_
          rw [HZ.out]
          rintro e w7 ⟨rfl, hb7⟩
          have hL7 := hL6.trans hb7
          clear K6
          go_wp2
          go_ret
          exact ⟨rfl, hbox.trans (hL7.mono (by have := HS.out; omega))⟩
        · go_wp2_with fail
          refine (live4_any _ (hT.below hw3 hT.pos)).mono ?_
          rintro e w4 ⟨rfl, hb4⟩
          have hL4 := hL3.trans hb4
          have K4 := block_cell ((hL4.block w.heap.size (by have := HS.out; omega)).trans HK.out)
          go_wp2_with fail
          refine (risError_any ty cde rest _ _).mono ?_
          rw [HX.out]
          rintro e w5 ⟨rfl, hb5⟩
          have hL5 := hL4.trans hb5
          have K5 := block_cell ((hL5.block w.heap.size (by have := HS.out; omega)).trans HK.out)
          clear K4
          go_wp2_with fail
          refine (risEcho_any ty cde rest _ _).mono ?_
          rw [HY.out]
          rintro e w6 ⟨rfl, hb6⟩
          have hL6 := hL5.trans hb6
          have K6 := block_cell ((hL6.block w.heap.size (by have := HS.out; omega)).trans HK.out)
          clear K5
          go_wp2_with fail
          refine (rasks_any ty cde rest _ _).mono ?_
          rw [HZ.out]
          rintro e w7 ⟨rfl, hb7⟩
          have hL7 := hL6.trans hb7
          clear K6
          go_wp2
          go_ret
          exact ⟨rfl, hbox.trans (hL7.mono (by have := HS.out; omega))⟩
      · cases Y
        · exact absurd (hZY rfl) (by simp)
        · go_wp2_with fail
          refine (live4_any _ (hT.below hw3 hT.pos)).mono ?_
          rintro e w4 ⟨rfl, hb4⟩
          have hL4 := hL3.trans hb4
          have K4 := block_cell ((hL4.block w.heap.size (by have := HS.out; omega)).trans HK.out)
          go_wp2_with fail
          refine (risError_any ty cde rest _ _).mono ?_
          rw [HX.out]
          rintro e w5 ⟨rfl, hb5⟩
          have hL5 := hL4.trans hb5
          have K5 := block_cell ((hL5.block w.heap.size (by have := HS.out; omega)).trans HK.out)
          clear K4
          go_wp2_with fail
          refine (risEcho_any ty cde rest _ _).mono ?_
          rw [HY.out]
          rintro e w6 ⟨rfl, hb6⟩
          have hL6 := hL5.trans hb6
          have K6 := block_cell ((hL6.block w.heap.size (by have := HS.out; omega)).trans HK.out)
          clear K5
          go_wp2_with fail
          refine (rasks_any ty cde rest _ _).mono ?_
          rw [HZ.out]
          rintro e w7 ⟨rfl, hb7⟩
          have hL7 := hL6.trans hb7
          clear K6
          go_wp2
          go_ret
          exact ⟨rfl, hbox.trans (hL7.mono (by have := HS.out; omega))⟩
    · cases Y
      · cases Z
        · go_wp2_with fail
          refine (live4_any _ (hT.below hw3 hT.pos)).mono ?_
          rintro e w4 ⟨rfl, hb4⟩
          have hL4 := hL3.trans hb4
          have K4 := block_cell ((hL4.block w.heap.size (by have := HS.out; omega)).trans HK.out)
          go_wp2_with fail
          refine (risError_any ty cde rest _ _).mono ?_
          rw [HX.out]
          rintro e w5 ⟨rfl, hb5⟩
          have hL5 := hL4.trans hb5
          have K5 := block_cell ((hL5.block w.heap.size (by have := HS.out; omega)).trans HK.out)
          clear K4
          go_wp2_with fail
          refine (risEcho_any ty cde rest _ _).mono ?_
          rw [HY.out]
          rintro e w6 ⟨rfl, hb6⟩
          have hL6 := hL5.trans hb6
          have K6 := block_cell ((hL6.block w.heap.size (by have := HS.out; omega)).trans HK.out)
          clear K5
          go_wp2_with fail
          refine (rasks_any ty cde rest _ _).mono ?_
          rw [HZ.out]
          rintro e w7 ⟨rfl, hb7⟩
          have hL7 := hL6.trans hb7
          clear K6
          go_wp2
          go_ret
          exact ⟨rfl, hbox.trans (hL7.mono (by have := HS.out; omega))⟩
        · exact absurd (hZY rfl) (by simp)
      · exact absurd ⟨rfl, rfl⟩ hXY
end Go.Proofs.YtejkonnbpjocoacDoor
