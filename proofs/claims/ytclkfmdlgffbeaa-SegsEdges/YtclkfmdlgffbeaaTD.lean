/- The document's answer whether two segments are the same: where they are. -/
import Derived.Test.YtclkfmdlgffbeaaV4
import Derived.Test.YtclkfmdlgffbeaaW8
import Derived.Test.YtclkfmdlgffbeaaSG
import Derived.Test.YtclkfmdlgffbeaaRx
namespace Go.Proofs.Ytclkfmdlgffbeaa
open Go.RowKit Go.Shelf
set_option maxRecDepth 100000
set_option linter.unusedVariables false
set_option linter.unusedSimpArgs false

set_option maxHeartbeats 8000000 in
theorem rsameTcp_yes (sp dp sq ak fl wn ur : Int) (sO sm sO' sm' : Value) (os : List Opt) (zm : List Int) (w : World) (hI : RdO w.heap.size w sO os) (hI' : RdO w.heap.size w sO' os) (hM : Rd w.heap.size w sm zm) (hM' : Rd w.heap.size w sm' zm) :
    Calls Try.prog 10 #[.agg #[.int .u16 sp, .int .u16 dp, .int .u32 sq, .int .u32 ak, .int .u8 fl, .int .u16 wn, .int .u16 ur, sO, sm], .agg #[.int .u16 sp, .int .u16 dp, .int .u32 sq, .int .u32 ak, .int .u8 fl, .int .u16 wn, .int .u16 ur, sO', sm']] w fun e w' => e = .returned (.bool true) ∧ Below w.heap.size w w' := by
  obtain ⟨aO, cO, rfl, _, hcm⟩ := hI.slice
  obtain ⟨aP, cP, rfl, _, _⟩ := hI'.slice
  obtain ⟨am, cm, rfl, _, _⟩ := hM.slice
  obtain ⟨an, cn, rfl, _, _⟩ := hM'.slice
  have hbox : Below w.heap.size w ((w.alloc (.cells #[.int .u16 sp, .int .u16 dp, .int .u32 sq, .int .u32 ak, .int .u8 fl, .int .u16 wn, .int .u16 ur, .slice aO os.length cO, .slice am zm.length cm] 29)).alloc (.cells #[.int .u16 sp, .int .u16 dp, .int .u32 sq, .int .u32 ak, .int .u8 fl, .int .u16 wn, .int .u16 ur, .slice aP os.length cP, .slice an zm.length cn] 29)) := ((Below.refl w.heap.size w).alloc (Nat.le_refl _) _).alloc (by simp) _
  have s0 : ((w.alloc (.cells #[.int .u16 sp, .int .u16 dp, .int .u32 sq, .int .u32 ak, .int .u8 fl, .int .u16 wn, .int .u16 ur, .slice aO os.length cO, .slice am zm.length cm] 29)).alloc (.cells #[.int .u16 sp, .int .u16 dp, .int .u32 sq, .int .u32 ak, .int .u8 fl, .int .u16 wn, .int .u16 ur, .slice aP os.length cP, .slice an zm.length cn] 29)).heap[w.heap.size]? = some (.cells #[.int .u16 sp, .int .u16 dp, .int .u32 sq, .int .u32 ak, .int .u8 fl, .int .u16 wn, .int .u16 ur, .slice aO os.length cO, .slice am zm.length cm] 29) := (Below.heap_alloc _ _ _ (by simp)).trans (heap_alloc_new w _)
  have s1 : ((w.alloc (.cells #[.int .u16 sp, .int .u16 dp, .int .u32 sq, .int .u32 ak, .int .u8 fl, .int .u16 wn, .int .u16 ur, .slice aO os.length cO, .slice am zm.length cm] 29)).alloc (.cells #[.int .u16 sp, .int .u16 dp, .int .u32 sq, .int .u32 ak, .int .u8 fl, .int .u16 wn, .int .u16 ur, .slice aP os.length cP, .slice an zm.length cn] 29)).heap[w.heap.size + 1]? = some (.cells #[.int .u16 sp, .int .u16 dp, .int .u32 sq, .int .u32 ak, .int .u8 fl, .int .u16 wn, .int .u16 ur, .slice aP os.length cP, .slice an zm.length cn] 29) := by have := heap_alloc_new (w.alloc (.cells #[.int .u16 sp, .int .u16 dp, .int .u32 sq, .int .u32 ak, .int .u8 fl, .int .u16 wn, .int .u16 ur, .slice aO os.length cO, .slice am zm.length cm] 29)) (.cells #[.int .u16 sp, .int .u16 dp, .int .u32 sq, .int .u32 ak, .int .u8 fl, .int .u16 wn, .int .u16 ur, .slice aP os.length cP, .slice an zm.length cn] 29); simpa only [World.size_alloc] using this
  have S0 := hide s0
  have S1 := hide s1
  clear s0 s1
  go_enter Try.func10, Try.ntmps10
  go_upto_region 1 with fail
  generalize (w.alloc (.cells #[.int .u16 sp, .int .u16 dp, .int .u32 sq, .int .u32 ak, .int .u8 fl, .int .u16 wn, .int .u16 ur, .slice aO os.length cO, .slice am zm.length cm] 29)).alloc (.cells #[.int .u16 sp, .int .u16 dp, .int .u32 sq, .int .u32 ak, .int .u8 fl, .int .u16 wn, .int .u16 ur, .slice aP os.length cP, .slice an zm.length cn] 29) = W0 at *
  have K0 := block_cell S0.out
  have K1 := block_cell S1.out
  have ca := conv_rd 24 9 5 Try.underlying24 Try.underlying5 Try.underlying9 (hM.below hbox)
  have cb := conv_rd 24 9 5 Try.underlying24 Try.underlying5 Try.underlying9 (hM'.below hbox)
  have e0 : (sp != sp) = false := by simp
  have e1 : (dp != dp) = false := by simp
  have e2 : (sq != sq) = false := by simp
  have e3 : (ak != ak) = false := by simp
  have e4 : (fl != fl) = false := by simp
  have e5 : (wn != wn) = false := by simp
  have e6 : (ur != ur) = false := by simp
  have e7 : ((os.length : Int) != (os.length : Int)) = false := by simp
  go_upto_region 3 with fail
  clear ca cb e0 e1 e2 e3 e4 e5 e6 e7
  go_wp2_with fail
  go_loopw [5] (fun i wr => ∃ k : Nat, k ≤ os.length ∧ i = .int .i64 (k : Int) ∧ Later W0 wr) (fun i _ => os.length - (intOf i).toNat)
  case atStart => exact ⟨0, by omega, rfl, Later.refl _⟩
  case round =>
    obtain ⟨k, hk, rfl, hl⟩ := hrel
    have k0 := block_cell (later_keep hl S0.out)
    have k1 := block_cell (later_keep hl S1.out)
    have hbr := hbox.trans (hl.mono hbox.size)
    clear K0 K1
    by_cases hlt : k < os.length
    · obtain ⟨b, off, cp, e, _, _, hbb, hcs⟩ := (hI.below hbr).cells (by omega)
      simp at e
      obtain ⟨rfl, rfl⟩ := e
      obtain ⟨b', off', cp', e', _, _, hbb', hcs'⟩ := (hI'.below hbr).cells (by omega)
      simp at e'
      obtain ⟨rfl, rfl⟩ := e'
      obtain ⟨s, c0, c1, hRs⟩ := hcs k hlt
      obtain ⟨s', c0', c1', hRs'⟩ := hcs' k hlt
      clear hcs hcs'
      obtain ⟨sa, sc, rfl, _, _⟩ := hRs.slice
      obtain ⟨sb, sd, rfl, _, _⟩ := hRs'.slice
      generalize os[k]?.getD (0, []) = o at *
      obtain ⟨kd, dt⟩ := o
      dsimp only at c0 c1 hRs c0' c1' hRs'
      have hlt' : (k : Int) < os.length := by omega
      have ek : (kd != kd) = false := by simp
      go_upto_region 6 with fail
      refine anyR_begin Later.pre Later.drew 30 rfl (by kernel_rfl) (fun W2 hW2 => ?_)
      have q0 : ∀ v1, Later W2 v1 → ∀ i, v1.cell? ⟨w.heap.size, i, none⟩ = #[Value.int .u16 sp, .int .u16 dp, .int .u32 sq, .int .u32 ak, .int .u8 fl, .int .u16 wn, .int .u16 ur, .slice (some ⟨b, off, none⟩) os.length cO, .slice am zm.length cm][i]? := fun v1 h => block_cell (later_keep ((hl.trans hW2).trans h) S0.out)
      have q1 : ∀ v1, Later W2 v1 → ∀ i, v1.cell? ⟨w.heap.size + 1, i, none⟩ = #[Value.int .u16 sp, .int .u16 dp, .int .u32 sq, .int .u32 ak, .int .u8 fl, .int .u16 wn, .int .u16 ur, .slice (some ⟨b', off', none⟩) os.length cP, .slice an zm.length cn][i]? := fun v1 h => block_cell (later_keep ((hl.trans hW2).trans h) S1.out)
      have q2 : ∀ v1, Later W2 v1 → v1.cell? ⟨b, off + k * 2, none⟩ = some (.int .u8 kd) := fun v1 h => (hW2.trans h).cell c0
      have q3 : ∀ v1, Later W2 v1 → v1.cell? ⟨b, off + k * 2 + 1, none⟩ = some (.slice sa dt.length sc) := fun v1 h => (hW2.trans h).cell c1
      have q4 : ∀ v1, Later W2 v1 → v1.cell? ⟨b', off' + k * 2, none⟩ = some (.int .u8 kd) := fun v1 h => (hW2.trans h).cell c0'
      have q5 : ∀ v1, Later W2 v1 → v1.cell? ⟨b', off' + k * 2 + 1, none⟩ = some (.slice sb dt.length sd) := fun v1 h => (hW2.trans h).cell c1'
      have q6 : ∀ v1, Later W2 v1 → (convert 24 9 (.slice sa dt.length sc)).run Try.prog v1 = .ok (.string (strOfNums dt)) v1 := fun v1 h => conv_rd 24 9 5 Try.underlying24 Try.underlying5 Try.underlying9 (hRs.below (((hW2.trans h)).mono hbr.size))
      have q7 : ∀ v1, Later W2 v1 → (convert 24 9 (.slice sb dt.length sd)).run Try.prog v1 = .ok (.string (strOfNums dt)) v1 := fun v1 h => conv_rd 24 9 5 Try.underlying24 Try.underlying5 Try.underlying9 (hRs'.below (((hW2.trans h)).mono hbr.size))
      clear k0 k1 c0 c1 c0' c1'
      refine anyR_val Later.pre 0 rfl (by kernel_rfl) (by kernel_rfl) (by kernel_rfl) (fun _ _ _ _ h => h) rfl ?_; apply Exists.intro; refine ⟨fun w1 hw1 => ?_, ?_⟩; (· (go_simp; rfl)); simp only [Act.put, List.setIfInBounds_toArray, List.set_cons_zero, List.set_cons_succ]
      refine anyR_val Later.pre 1 rfl (by kernel_rfl) (by kernel_rfl) (by kernel_rfl) (fun _ _ _ _ h => h) rfl ?_; apply Exists.intro; refine ⟨fun w1 hw1 => ?_, ?_⟩; (· (go_simp; rfl)); simp only [Act.put, List.setIfInBounds_toArray, List.set_cons_zero, List.set_cons_succ]
      refine anyR_val Later.pre 2 rfl (by kernel_rfl) (by kernel_rfl) (by kernel_rfl) (fun _ _ _ _ h => h) rfl ?_; apply Exists.intro; refine ⟨fun w1 hw1 => ?_, ?_⟩; (· (go_simp; rfl)); simp only [Act.put, List.setIfInBounds_toArray, List.set_cons_zero, List.set_cons_succ]
      refine anyR_val Later.pre 3 rfl (by kernel_rfl) (by kernel_rfl) (by kernel_rfl) (fun _ _ _ _ h => h) rfl ?_; apply Exists.intro; refine ⟨fun w1 hw1 => ?_, ?_⟩; (· (go_simp; rfl)); simp only [Act.put, List.setIfInBounds_toArray, List.set_cons_zero, List.set_cons_succ]
      refine anyR_val Later.pre 4 rfl (by kernel_rfl) (by kernel_rfl) (by kernel_rfl) (fun _ _ _ _ h => h) rfl ?_; apply Exists.intro; refine ⟨fun w1 hw1 => ?_, ?_⟩; (· (go_simp; rfl)); simp only [Act.put, List.setIfInBounds_toArray, List.set_cons_zero, List.set_cons_succ]
      refine anyR_val Later.pre 5 rfl (by kernel_rfl) (by kernel_rfl) (by kernel_rfl) (fun _ _ _ _ h => h) rfl ?_; apply Exists.intro; refine ⟨fun w1 hw1 => ?_, ?_⟩; (· (go_simp; rfl)); simp only [Act.put, List.setIfInBounds_toArray, List.set_cons_zero, List.set_cons_succ]
      refine anyR_val Later.pre 6 rfl (by kernel_rfl) (by kernel_rfl) (by kernel_rfl) (fun _ _ _ _ h => h) rfl ?_; apply Exists.intro; refine ⟨fun w1 hw1 => ?_, ?_⟩; (· (go_simp; rfl)); simp only [Act.put, List.setIfInBounds_toArray, List.set_cons_zero, List.set_cons_succ]
      refine anyR_val Later.pre 7 rfl (by kernel_rfl) (by kernel_rfl) (by kernel_rfl) (fun _ _ _ _ h => h) rfl ?_; apply Exists.intro; refine ⟨fun w1 hw1 => ?_, ?_⟩; (· (go_simp; rfl)); simp only [Act.put, List.setIfInBounds_toArray, List.set_cons_zero, List.set_cons_succ]
      refine anyR_val Later.pre 8 rfl (by kernel_rfl) (by kernel_rfl) (by kernel_rfl) (fun _ _ _ _ h => h) rfl ?_; apply Exists.intro; refine ⟨fun w1 hw1 => ?_, ?_⟩; (· (go_simp; rfl)); simp only [Act.put, List.setIfInBounds_toArray, List.set_cons_zero, List.set_cons_succ]
      refine anyR_val Later.pre 9 rfl (by kernel_rfl) (by kernel_rfl) (by kernel_rfl) (fun _ _ _ _ h => h) rfl ?_; apply Exists.intro; refine ⟨fun w1 hw1 => ?_, ?_⟩; (· (go_simp; rfl)); simp only [Act.put, List.setIfInBounds_toArray, List.set_cons_zero, List.set_cons_succ]
      refine anyR_val Later.pre 10 rfl (by kernel_rfl) (by kernel_rfl) (by kernel_rfl) (fun _ _ _ _ h => h) rfl ?_; apply Exists.intro; refine ⟨fun w1 hw1 => ?_, ?_⟩; (· (go_simp; rfl)); simp only [Act.put, List.setIfInBounds_toArray, List.set_cons_zero, List.set_cons_succ]
      refine anyR_val Later.pre 11 rfl (by kernel_rfl) (by kernel_rfl) (by kernel_rfl) (fun _ _ _ _ h => h) rfl ?_; apply Exists.intro; refine ⟨fun w1 hw1 => ?_, ?_⟩; (· (go_simp; rfl)); simp only [Act.put, List.setIfInBounds_toArray, List.set_cons_zero, List.set_cons_succ]
      refine anyR_val Later.pre 12 rfl (by kernel_rfl) (by kernel_rfl) (by kernel_rfl) (fun _ _ _ _ h => h) rfl ?_; apply Exists.intro; refine ⟨fun w1 hw1 => ?_, ?_⟩; (· (go_simp; rfl)); simp only [Act.put, List.setIfInBounds_toArray, List.set_cons_zero, List.set_cons_succ]
      refine anyR_val Later.pre 13 rfl (by kernel_rfl) (by kernel_rfl) (by kernel_rfl) (fun _ _ _ _ h => h) rfl ?_; apply Exists.intro; refine ⟨fun w1 hw1 => ?_, ?_⟩; (· (go_simp; rfl)); simp only [Act.put, List.setIfInBounds_toArray, List.set_cons_zero, List.set_cons_succ]
      refine anyR_valG Later.pre 14 rfl (by kernel_rfl) (by kernel_rfl) (by kernel_rfl) (fun _ _ _ _ h => h) (by rfl) ?_; apply Exists.intro; refine ⟨fun w1 hw1 => ?_, ?_⟩; (· (go_simp; rfl)); simp only [Act.put, List.setIfInBounds_toArray, List.set_cons_zero, List.set_cons_succ]
      refine anyR_valG Later.pre 15 rfl (by kernel_rfl) (by kernel_rfl) (by kernel_rfl) (fun _ _ _ _ h => h) (by rfl) ?_; apply Exists.intro; refine ⟨fun w1 hw1 => ?_, ?_⟩; (· (go_simp; rfl)); simp only [Act.put, List.setIfInBounds_toArray, List.set_cons_zero, List.set_cons_succ]
      refine anyR_valG Later.pre 16 rfl (by kernel_rfl) (by kernel_rfl) (by kernel_rfl) (fun _ _ _ _ h => h) (by rfl) ?_; apply Exists.intro; refine ⟨fun w1 hw1 => ?_, ?_⟩; (· (go_simp; rfl)); simp only [Act.put, List.setIfInBounds_toArray, List.set_cons_zero, List.set_cons_succ]
      refine anyR_valG Later.pre 17 rfl (by kernel_rfl) (by kernel_rfl) (by kernel_rfl) (fun _ _ _ _ h => h) (by rfl) ?_; apply Exists.intro; refine ⟨fun w1 hw1 => ?_, ?_⟩; (· (go_simp; rfl)); simp only [Act.put, List.setIfInBounds_toArray, List.set_cons_zero, List.set_cons_succ]
      refine anyR_valG Later.pre 18 rfl (by kernel_rfl) (by kernel_rfl) (by kernel_rfl) (fun _ _ _ _ h => h) (by rfl) ?_; apply Exists.intro; refine ⟨fun w1 hw1 => ?_, ?_⟩; (· (go_simp; rfl)); simp only [Act.put, List.setIfInBounds_toArray, List.set_cons_zero, List.set_cons_succ]
      refine anyR_valG Later.pre 19 rfl (by kernel_rfl) (by kernel_rfl) (by kernel_rfl) (fun _ _ _ _ h => h) (by rfl) ?_; apply Exists.intro; refine ⟨fun w1 hw1 => ?_, ?_⟩; (· (go_simp; rfl)); simp only [Act.put, List.setIfInBounds_toArray, List.set_cons_zero, List.set_cons_succ]
      refine anyR_valG Later.pre 20 rfl (by kernel_rfl) (by kernel_rfl) (by kernel_rfl) (fun _ _ _ _ h => h) (by rfl) ?_; apply Exists.intro; refine ⟨fun w1 hw1 => ?_, ?_⟩; (· (go_simp; rfl)); simp only [Act.put, List.setIfInBounds_toArray, List.set_cons_zero, List.set_cons_succ]
      refine anyR_valG Later.pre 21 rfl (by kernel_rfl) (by kernel_rfl) (by kernel_rfl) (fun _ _ _ _ h => h) (by rfl) ?_; apply Exists.intro; refine ⟨fun w1 hw1 => ?_, ?_⟩; (· (go_simp; rfl)); simp only [Act.put, List.setIfInBounds_toArray, List.set_cons_zero, List.set_cons_succ]
      refine anyR_valG Later.pre 22 rfl (by kernel_rfl) (by kernel_rfl) (by kernel_rfl) (fun _ _ _ _ h => h) (by rfl) ?_; apply Exists.intro; refine ⟨fun w1 hw1 => ?_, ?_⟩; (· (go_simp; rfl)); simp only [Act.put, List.setIfInBounds_toArray, List.set_cons_zero, List.set_cons_succ]
      refine anyR_valG Later.pre 23 rfl (by kernel_rfl) (by kernel_rfl) (by kernel_rfl) (fun _ _ _ _ h => h) (by rfl) ?_; apply Exists.intro; refine ⟨fun w1 hw1 => ?_, ?_⟩; (· (go_simp; rfl)); simp only [Act.put, List.setIfInBounds_toArray, List.set_cons_zero, List.set_cons_succ]
      refine anyR_valG Later.pre 24 rfl (by kernel_rfl) (by kernel_rfl) (by kernel_rfl) (fun _ _ _ _ h => h) (by rfl) ?_; apply Exists.intro; refine ⟨fun w1 hw1 => ?_, ?_⟩; (· (go_simp; rfl)); simp only [Act.put, List.setIfInBounds_toArray, List.set_cons_zero, List.set_cons_succ]
      refine anyR_valG Later.pre 25 rfl (by kernel_rfl) (by kernel_rfl) (by kernel_rfl) (fun _ _ _ _ h => h) (by rfl) ?_; apply Exists.intro; refine ⟨fun w1 hw1 => ?_, ?_⟩; (· (go_simp; rfl)); simp only [Act.put, List.setIfInBounds_toArray, List.set_cons_zero, List.set_cons_succ]
      refine anyR_valG Later.pre 26 rfl (by kernel_rfl) (by kernel_rfl) (by kernel_rfl) (fun _ _ _ _ h => h) (by rfl) ?_; apply Exists.intro; refine ⟨fun w1 hw1 => ?_, ?_⟩; (· (go_simp; rfl)); simp only [Act.put, List.setIfInBounds_toArray, List.set_cons_zero, List.set_cons_succ]
      refine anyR_valG Later.pre 27 rfl (by kernel_rfl) (by kernel_rfl) (by kernel_rfl) (fun _ _ _ _ h => h) (by rfl) ?_; apply Exists.intro; refine ⟨fun w1 hw1 => ?_, ?_⟩; (· (go_simp; rfl)); simp only [Act.put, List.setIfInBounds_toArray, List.set_cons_zero, List.set_cons_succ]
      refine anyR_valG Later.pre 28 rfl (by kernel_rfl) (by kernel_rfl) (by kernel_rfl) (fun _ _ _ _ h => h) (by rfl) ?_; apply Exists.intro; refine ⟨fun w1 hw1 => ?_, ?_⟩; (· (go_simp; rfl)); simp only [Act.put, List.setIfInBounds_toArray, List.set_cons_zero, List.set_cons_succ]
      refine anyR_val Later.pre 29 rfl (by kernel_rfl) (by kernel_rfl) (by kernel_rfl) (fun _ _ _ _ h => h) rfl ?_; apply Exists.intro; refine ⟨fun w1 hw1 => ?_, ?_⟩; (· (go_simp; rfl)); simp only [Act.put, List.setIfInBounds_toArray, List.set_cons_zero, List.set_cons_succ]
      refine anyR_done (by kernel_rfl) (fun W8 hW8 => ?_)
      have hl8 := (hl.trans hW2).trans hW8
      clear q0 q1 q2 q3 q4 q5 q6 q7
      go_wp2_with fail
      go_roundw
      case rel => exact ⟨k + 1, by omega, by go_num, hl8⟩
      case measure => simp [intOf]; omega
    · go_wp2_with fail
      go_ret
      exact ⟨rfl, hbr⟩
end Go.Proofs.Ytclkfmdlgffbeaa
