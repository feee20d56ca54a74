/- Package sip: which headers and messages are right. -/
import Derived.Test.YtibjgaelaijgpaaGreatDoorID
namespace Go.Proofs.YtibjgaelaijgpaaGreatDoor
open Go.RowKit Go.Shelf
set_option maxRecDepth 100000
set_option linter.unusedVariables false
set_option linter.unusedSimpArgs false

/-- Two texts are the same. -/
def eqS (x y : ByteArray) : Bool := x.data.toList == y.data.toList
theorem str_beq (x y : ByteArray) : (x.toList == y.toList) = eqS x y := by rw [ByteArray.toList_eq, ByteArray.toList_eq]; rfl
def clN : ByteArray := ⟨#[67, 111, 110, 116, 101, 110, 116, 45, 76, 101, 110, 103, 116, 104]⟩
/-- A header that may be, ahead of a body of so many bytes. -/
def okh (n : Nat) (h : Hr) : Bool := allN nmC h.1 && (vlB h.2 && (!swV h.1 clN || eqS h.2 (decB n)))
def rhB (n : Nat) (hs : List Hr) : Bool := decide (hs.length ≤ 64) && (hs.all (okh n) && decide (hs.countP (fun h => swV h.1 clN) = 1))
theorem hsz_mem {h : Hr} {l : List Hr} (hm : h ∈ l) : h.1.size + h.2.size ≤ hsz l := by
  induction l with
  | nil => cases hm
  | cons a l ih =>
    unfold hsz at ih ⊢
    simp only [List.map_cons, List.sum_cons]
    rcases List.mem_cons.1 hm with rfl | hm
    · omega
    · have := ih hm
      omega
theorem rhB_no {n : Nat} {hs : List Hr} {h : Hr} (hm : h ∈ hs) (ho : okh n h = false) : rhB n hs = false := by
  have : hs.all (okh n) = false := by
    rw [List.all_eq_false]
    exact ⟨h, hm, by simp [ho]⟩
  unfold rhB
  rw [this]
  simp

set_option maxHeartbeats 8000000 in
theorem rightHeaders_any (hs : List Hr) (sv : Value) (n : Nat) (w : World) (hT : TabI w) (hI : RdM w.heap.size w sv hs) (hz : hsz hs ≤ 9000000000000000000) (hn : n ≤ 9223372036854775807) :
    Calls Tryz.prog 36 #[sv, .int .i64 (n : Int)] w fun e w' => e = .returned (.bool (rhB n hs)) ∧ Later w w' := by
  obtain ⟨ah, ch, rfl, hl1, hm1⟩ := hI.slice
  go_enter Tryz.func36, Tryz.ntmps36
  by_cases h64 : hs.length ≤ 64
  case neg =>
    have h1 : (64 : Int) < (hs.length : Int) := by omega
    have HV : Hid (rhB n hs = false) := by show _ = _; unfold rhB; simp [h64]
    go_wp2_with fail
    go_ret
    exact ⟨by rw [HV.out]; rfl, Later.refl _⟩
  have h1 : ¬ (64 : Int) < (hs.length : Int) := by omega
  have HV : Hid (hs.all (okh n) = true → rhB n hs = decide (hs.countP (fun h => swV h.1 clN) = 1)) := fun h => by unfold rhB; rw [h]; simp [h64]
  go_upto_region 5 with fail
  clear h1
  go_loopw [5, 13] (fun nv iv wr => ∃ k : Nat, k ≤ hs.length ∧ iv = .int .i64 (k : Int) ∧ nv = .int .i64 (((hs.take k).countP (fun h => swV h.1 clN) : Nat) : Int) ∧ Later w wr ∧ Hid ((hs.take k).all (okh n) = true)) (fun _ iv _ => hs.length - (intOf iv).toNat)
  case atStart => exact ⟨0, by omega, rfl, rfl, Later.refl _, hide rfl⟩
  case round =>
    obtain ⟨k, hk, rfl, rfl, lr, hal⟩ := hrel
    by_cases hlt : k < hs.length
    · have hlt' : (k : Int) < (hs.length : Int) := by omega
      obtain ⟨b, off, cp, e, _, _, hbn, hcs⟩ := (hI.below lr).cells (by omega)
      cases e
      have d0 := hcs k hlt 0 (by omega)
      have d1 := hcs k hlt 1 (by omega)
      have hsn : hs.take (k + 1) = hs.take k ++ [hs[k]] := by rw [← List.take_append_getElem hlt]
      have hmem := List.getElem_mem hlt
      have hzm := hsz_mem hmem
      have HNO : Hid (okh n hs[k] = false → rhB n hs = false) := fun h => rhB_no hmem h
      have HYE : Hid (okh n hs[k] = true → (hs.take (k + 1)).all (okh n) = true) := fun h => by rw [hsn, List.all_append, hal.out]; simp [h]
      have HCT : Hid ((hs.take (k + 1)).countP (fun h => swV h.1 clN) = (hs.take k).countP (fun h => swV h.1 clN) + (if swV hs[k].1 clN = true then 1 else 0)) := by show _ = _; rw [hsn, List.countP_append]; simp [List.countP_cons]
      have hcl : (hs.take k).countP (fun h => swV h.1 clN) ≤ k := by
        have := List.countP_le_length (p := fun h : Hr => swV h.1 clN) (l := hs.take k)
        rw [List.length_take] at this
        omega
      clear hcs hsn hmem
      generalize hs[k] = r at *
      obtain ⟨x, y⟩ := r
      simp only [hrc, List.getElem?_cons_zero, List.getElem?_cons_succ, Nat.add_zero] at d0 d1 hzm HCT
      have HOK : Hid (okh n (x, y) = (allN nmC x && (vlB y && (!swV x clN || eqS y (decB n))))) := rfl
      rw [HOK.out] at HNO HYE
      clear HOK
      generalize (hs.take k).countP (fun h => swV h.1 clN) = c at *
      have la := later_allocR wr (.cells #[.string x, .string y] 44)
      have B1 := hide (heap_alloc_new wr (.cells #[.string x, .string y] 44))
      go_upto_region 7 with fail
      clear d0 d1
      generalize wr.alloc _ = wq at *
      generalize wr.heap.size = gh at *
      have lq := lr.trans la
      have k1 := block_cell B1.out
      go_wp2_with fail
      refine (rightName_any x wq).mono ?_
      generalize allN nmC x = b1 at *
      rintro e w1 ⟨rfl, l1⟩
      clear k1
      cases b1 with
      | false =>
        have hv := HNO.out rfl
        go_wp2_with fail
        go_ret
        exact ⟨by rw [hv]; rfl, lq.trans l1⟩
      | true =>
        have k1 := block_cell (later_keep l1 B1.out)
        go_wp2_with fail
        refine (rightValue_any y w1 (by omega)).mono ?_
        generalize vlB y = b2 at *
        rintro e w2 ⟨rfl, l2⟩
        clear k1
        cases b2 with
        | false =>
          have hv := HNO.out rfl
          go_wp2_with fail
          go_ret
          exact ⟨by rw [hv]; rfl, lq.trans (l1.trans l2)⟩
        | true =>
          have B2 := hide (later_keep (l1.trans l2) B1.out)
          have k2 := block_cell B2.out
          go_upto_region 9 with fail
          go_wp2_with fail
          refine (named_any x y clN w2 (by omega)).mono ?_
          generalize swV x clN = b3 at *
          rintro e w3 ⟨rfl, l3⟩
          clear k2
          have L3 := lq.trans (l1.trans (l2.trans l3))
          cases b3 with
          | false =>
            have hye := HYE.out rfl
            go_wp2_with fail
            go_roundw
            case rel => exact ⟨k + 1, by omega, by go_num, by rw [HCT.out]; rfl, L3, hide hye⟩
            case measure => simp [intOf]; omega
          | true =>
            have B3 := hide (later_keep l3 B2.out)
            go_upto_region 10 with fail
            refine anyR_begin (R := Later) Later.pre Later.drew 5 rfl (by kernel_rfl) (fun V0 hV0 => ?_)
            have qH : ∀ v, Later V0 v → ∀ j, v.cell? ⟨gh, j, none⟩ = #[Value.string x, .string y][j]? := fun v hv => block_cell (later_keep (hV0.trans hv) B3.out)
            refine anyR_val Later.pre 0 rfl (by kernel_rfl) (by kernel_rfl) (by kernel_rfl) (fun _ _ _ _ h => h) rfl ?_; apply Exists.intro; refine ⟨fun v1 hv1 => ?_, ?_⟩; (· (go_simp; rfl)); simp only [Act.put, List.setIfInBounds_toArray, List.set_cons_zero, List.set_cons_succ]
            refine anyR_val Later.pre 1 rfl (by kernel_rfl) (by kernel_rfl) (by kernel_rfl) (fun _ _ _ _ h => h) rfl ?_; apply Exists.intro; refine ⟨fun v1 hv1 => ?_, ?_⟩; (· (go_simp; rfl)); simp only [Act.put, List.setIfInBounds_toArray, List.set_cons_zero, List.set_cons_succ]
            refine anyR_val Later.pre 2 rfl (by kernel_rfl) (by kernel_rfl) (by kernel_rfl) (fun _ _ _ _ h => h) rfl ?_; apply Exists.intro; refine ⟨fun v1 hv1 => ?_, ?_⟩; (· (go_simp; rfl)); simp only [Act.put, List.setIfInBounds_toArray, List.set_cons_zero, List.set_cons_succ]
            refine anyR_take Later.pre 3 (.string (decB n)) rfl (by kernel_rfl) (by kernel_rfl) (by kernel_rfl) (fun _ _ _ h => h) rfl (fun v1 hv1 => goes_call 50 #[.int .i64 (n : Int)] (by go_simp) (lengthValue_any n v1 (hT.later (L3.trans (hV0.trans hv1))) hn)) ?_
            simp only [Act.put, List.setIfInBounds_toArray, List.set_cons_zero, List.set_cons_succ]
            refine anyR_val Later.pre 4 rfl (by kernel_rfl) (by kernel_rfl) (by kernel_rfl) (fun _ _ _ _ h => h) rfl ?_; apply Exists.intro; refine ⟨fun v1 hv1 => ?_, ?_⟩; (· (go_simp; rfl)); simp only [Act.put, List.setIfInBounds_toArray, List.set_cons_zero, List.set_cons_succ]
            clear qH
            refine anyR_done (by kernel_rfl) (fun V9 hV9 => ?_)
            have L9 := L3.trans (hV0.trans hV9)
            rw [str_beq y (decB n)]
            generalize eqS y (decB n) = b4 at *
            cases b4 with
            | false =>
              have HVV := hide (HNO.out rfl)
              go_wp2_with fail
              go_ret
              exact ⟨by rw [HVV.out]; rfl, L9⟩
            | true =>
              have HYY := hide (HYE.out rfl)
              go_wp2_with fail
              go_roundw
              case rel => exact ⟨k + 1, by omega, by go_num, by rw [HCT.out]; go_num, L9, HYY⟩
              case measure => simp [intOf]; omega
    · obtain rfl : k = hs.length := by omega
      have hnl : ¬ ((hs.length : Nat) : Int) < (hs.length : Int) := by omega
      rw [List.take_length] at hal ⊢
      have hv := HV.out hal.out
      generalize hs.countP (fun h => swV h.1 clN) = c at *
      have hq : ((c : Int) == 1) = decide (c = 1) := by by_cases h : c = 1 <;> simp [h]; omega
      have HQ := hide hq
      have HVV := hide hv
      clear hv hq
      go_wp2_with fail
      go_ret
      exact ⟨by rw [HVV.out, ← HQ.out]; rfl, lr⟩
end Go.Proofs.YtibjgaelaijgpaaGreatDoor
