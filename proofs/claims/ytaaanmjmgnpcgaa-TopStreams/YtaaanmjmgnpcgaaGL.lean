/- The document's stream: New, Len, end, diff. -/
import Derived.Test.YtaaanmjmgnpcgaaGK
namespace Go.Proofs.Ytaaanmjmgnpcgaa
open Go.RowKit Go.Shelf
set_option maxRecDepth 100000
set_option linter.unusedVariables false
set_option linter.unusedSimpArgs false

theorem rsnew_any (w : World) : Calls Try.prog 24 #[] w fun e w' => e = .returned (.pointer (some ⟨w.heap.size, 0, none⟩)) ∧ Later w w' ∧ DS 71 w.heap.size w' w.heap.size (.slice none 0 0) [] := by
  have la : Later w (w.alloc (.cells #[.slice none 0 0] 71)) := (Below.refl _ _).alloc (Nat.le_refl _) _
  have hn := heap_alloc_new w (.cells #[.slice none 0 0] 71)
  go_enter Try.func24, Try.ntmps24
  go_wp2_with fail
  go_ret
  exact ⟨rfl, la, Nat.le_refl _, hn, rfl, .inl ⟨rfl, rfl⟩⟩
theorem rslen_any (base b : Nat) (v : Value) (l : List Dp) (w : World) (hT : DS 71 base w b v l) : Calls Try.prog 29 #[.pointer (some ⟨b, 0, none⟩)] w fun e w' => e = .returned (.int .i64 (l.length : Int)) ∧ w' = w := by
  have k0 := block_cell hT.2.1
  obtain ⟨av, cv, rfl, _, _⟩ := (ownD_rd hT.2.2).slice
  go_enter Try.func29, Try.ntmps29
  go_wp2_with fail
  go_ret
  exact ⟨rfl, rfl⟩
/-- The number behind a part. -/
def dend (r : Dp) : Int := (r.st + r.wz) % 4294967296
theorem rend_any (r : Dp) (w : World) : Calls Try.prog 39 #[.agg (dpc r).toArray] w fun e w' => e = .returned (.int .u32 (dend r)) ∧ Later w w' := by
  have la : Later w (w.alloc (.cells (dpc r).toArray 73)) := (Below.refl _ _).alloc (Nat.le_refl _) _
  have hn := heap_alloc_new w (.cells (dpc r).toArray 73)
  unfold dpc at *
  unfold dend
  go_enter Try.func39, Try.ntmps39
  go_upto_region 1 with fail
  generalize w.alloc _ = w0 at *
  have k0 := block_cell hn
  go_wp2_with fail
  go_ret
  exact ⟨by first | rfl | (simp; done) | (congr 2; omega), la⟩
/-- The difference of the first so many parts. -/
def dfz (l : List Dp) : Nat → Int
  | 0 => 0
  | k + 1 => (dfz l k + (((l[k]?.getD zDp).tn : Int) - (l[k]?.getD zDp).wz)) % 4294967296
theorem dfz_rng (l : List Dp) : ∀ k, 0 ≤ dfz l k ∧ dfz l k ≤ 4294967295
  | 0 => by unfold dfz; omega
  | k + 1 => by unfold dfz; omega

set_option maxHeartbeats 4000000 in
theorem rdiff_any (base b : Nat) (v : Value) (l : List Dp) (n : Nat) (w : World) (hT : DS 71 base w b v l) (hn : n ≤ l.length) (hl : l.length ≤ 1000) (htn : ∀ d ∈ l, d.tn ≤ 128) :
    Calls Try.prog 40 #[.pointer (some ⟨b, 0, none⟩), .int .i64 (n : Int)] w fun e w' => e = .returned (.int .u32 (dfz l n)) ∧ Later w w' := by
  have HT := hide hT
  obtain ⟨av, cv, rfl, _, _⟩ := (ownD_rd hT.2.2).slice
  clear hT
  go_enter Try.func40, Try.ntmps40
  go_wp2_with fail
  go_loopw [5, 6] (fun d i wr => ∃ k : Nat, k ≤ n ∧ d = .int .u32 (dfz l k) ∧ i = .int .i64 (k : Int) ∧ Later w wr) (fun d i _ => n - (intOf i).toNat)
  case atStart => exact ⟨0, by omega, rfl, rfl, Later.refl _⟩
  case round =>
    obtain ⟨k, hk, rfl, rfl, lw⟩ := hrel
    have hr := dfz_rng l k
    by_cases hgo : k < n
    · have hgo' : (k : Int) < n := by omega
      have hkl : k < l.length := by omega
      have hkl' : (k : Int) < l.length := by omega
      have hT := HT.out.later lw
      have k0 := block_cell hT.2.1
      obtain ⟨g, off, cp, e, _, _, hgn, hcs⟩ := (ownD_rd hT.2.2).cells (by omega)
      simp at e
      obtain ⟨rfl, rfl⟩ := e
      have c1 := hcs k hkl 1 (by omega)
      have c2 := hcs k hkl 2 (by omega)
      have hz : dfz l (k + 1) = (dfz l k + (((l[k]'hkl).tn : Int) - (l[k]'hkl).wz)) % 4294967296 := by show (dfz l k + (((l[k]?.getD zDp).tn : Int) - (l[k]?.getD zDp).wz)) % 4294967296 = _; rw [List.getElem?_eq_getElem hkl]; rfl
      have ht1 := htn (l[k]'hkl) (List.getElem_mem _)
      have HZ := hide hz
      clear hz hcs htn
      generalize l[k]'hkl = r at *
      simp only [dpc, List.getElem?_cons_zero, List.getElem?_cons_succ] at c1 c2
      have lz : ∀ n, Later wr (wr.drewN n) := fun n => below_draw (Later.refl _) _
      generalize hq : dfz l k = q at *
      go_upto_region 5 with fail
      go_quiet (fail)
      go_wp2_with fail
      go_roundw
      case rel =>
        exact ⟨k + 1, by omega, by rw [HZ.out]; congr 1; omega, by simp, lw.trans (lz _)⟩
      case measure => simp [intOf]; omega
    · have hgo' : ¬ (k : Int) < n := by omega
      obtain rfl : k = n := by omega
      go_wp2_with fail
      refine bodyPost_ret (v := .int .u32 (dfz l k)) (by simp [results, Try.results40, go_sem]) rfl ?_
      exact ⟨rfl, lw⟩
end Go.Proofs.Ytaaanmjmgnpcgaa
