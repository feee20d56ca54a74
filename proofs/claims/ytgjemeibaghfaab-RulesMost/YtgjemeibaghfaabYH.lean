/- Package rules: Masq, Dnat, has, New. -/
import Derived.Test.YtgjemeibaghfaabYG
namespace Go.Proofs.Ytgjemeibaghfaab
open Go.RowKit Go.Shelf
set_option maxRecDepth 100000
set_option linter.unusedVariables false
set_option linter.unusedSimpArgs false

theorem PL.blk {base : Nat} {W : World} {p : Option Addr} {l : List Ru} (h : PL base W p l) : True := trivial

set_option maxHeartbeats 2000000 in
theorem masq_any (base : Nat) (p : Option Addr) (ls : List Ru) (src : Int) (w : World) (hT : PL base w p ls) (hok : okL ls) (hs : 0 ≤ src ∧ src ≤ 4294967295) :
    Calls Try.prog 11 #[.pointer p, .int .u32 src] w fun e w' => e = .returned (.tuple #[.agg (ruc (fnd (mqB src) ls)).toArray, .bool (fdb (mqB src) ls)]) ∧ Later w w' := by
  have lb0 : Later w ((w.alloc (.cells #[.int .u32 src] 27)).alloc (.cells #[.int .i64 0, .int .u8 0, .int .u32 0, .int .i64 0, .int .u32 0, .int .u16 0, .int .u32 0, .int .u16 0] 30)) := ((Below.refl _ _).alloc (Nat.le_refl _) _).alloc (by simp) _
  have c0 : ((w.alloc (.cells #[.int .u32 src] 27)).alloc (.cells #[.int .i64 0, .int .u8 0, .int .u32 0, .int .i64 0, .int .u32 0, .int .u16 0, .int .u32 0, .int .u16 0] 30)).heap[w.heap.size]? = some (.cells #[.int .u32 src] 27) := (Below.heap_alloc _ _ _ (by simp)).trans (heap_alloc_new w _)
  have c1 : ((w.alloc (.cells #[.int .u32 src] 27)).alloc (.cells #[.int .i64 0, .int .u8 0, .int .u32 0, .int .i64 0, .int .u32 0, .int .u16 0, .int .u32 0, .int .u16 0] 30)).heap[w.heap.size + 1]? = some (.cells #[.int .i64 0, .int .u8 0, .int .u32 0, .int .i64 0, .int .u32 0, .int .u16 0, .int .u32 0, .int .u16 0] 30) := by
    have := heap_alloc_new (w.alloc (.cells #[.int .u32 src] 27)) (.cells #[.int .i64 0, .int .u8 0, .int .u32 0, .int .i64 0, .int .u32 0, .int .u16 0, .int .u32 0, .int .u16 0] 30)
    rwa [World.size_alloc] at this
  go_enter Try.func11, Try.ntmps11
  go_wp2_with fail
  generalize (w.alloc (.cells #[.int .u32 src] 27)).alloc (.cells #[.int .i64 0, .int .u8 0, .int .u32 0, .int .i64 0, .int .u32 0, .int .u16 0, .int .u32 0, .int .u16 0] 30) = w0 at *
  refine ((callsIn_wide (n := 5)).1 (allU_in 5 p w0)).mono ?_
  rintro e w1 ⟨rfl, hw1⟩
  have l1 : Later w0 w1 := by rw [hw1]; exact (Below.refl _ _).alloc (Nat.le_refl _) _
  have b1 : w1.heap[w0.heap.size]? = some (.cells #[.pointer p] 22) := by rw [hw1]; exact heap_alloc_new w0 _
  generalize w0.heap.size = B at *
  clear hw1
  have hT1 := hT.later (lb0.trans l1)
  have d0 := later_keep l1 c0
  have d1 := later_keep l1 c1
  go_wp2_with fail
  refine (first_any base 18 #[.pointer (some ⟨w.heap.size, 0, none⟩)] p B ls (mqB src) w1 hT1 (Array.getElem?_eq_some_iff.1 b1).1 ((block_cell b1 0).trans rfl) (enters_of Try.func18 (by kernel_rfl) rfl) (fun x hx W hW => masq1_any x w.heap.size src W (fun hk => rtB_bits (hok.2 x hx).2 hk) hs ((block_cell (later_keep hW d0) 0).trans rfl))).mono ?_
  rintro e w2 ⟨rfl, l2⟩
  have e1 := later_keep l2 d1
  have K1 := block_cell e1
  have F1 := block_frozen e1
  generalize hr : fnd (mqB src) ls = r at *
  generalize ht : fdb (mqB src) ls = t at *
  have HR := hide hr
  have HT := hide ht
  clear hr ht
  unfold ruc
  go_wp2_with fail
  change bodyPost _ _ _ _ _ (putRow w2 (w.heap.size + 1) 0 (ruc r))
  have v1 := putRow_all (ruc r) e1 rfl
  have hbl : Below w.heap.size w2 (putRow w2 (w.heap.size + 1) 0 (ruc r)) := (putRow_rb (rb := w.heap.size + 1) (ruc r) w2).below ((lb0.trans l1).trans l2).size (fun k hk e => by omega)
  generalize putRow w2 (w.heap.size + 1) 0 (ruc r) = V at *
  have k1 := block_cell v1
  simp only [ruc] at k1
  refine bodyPost_ret (v := .tuple #[.agg (ruc r).toArray, .bool t]) (by simp [results, Try.results11, go_sem, k1, ruc]) rfl ⟨by rw [HR.out, HT.out], Below.trans ((lb0.trans l1).trans l2) hbl⟩

def hasB (x : Ru) (l : List Ru) : Bool := fdb (fun y => decide (y = x)) l
theorem hasB_iff {x : Ru} {l : List Ru} : hasB x l = true ↔ x ∈ l := by
  unfold hasB fdb
  rw [List.find?_isSome]
  constructor
  · rintro ⟨y, h1, h2⟩; simp at h2; subst h2; exact h1
  · intro h; exact ⟨x, h, by simp⟩

set_option maxHeartbeats 2000000 in
theorem has_any (base : Nat) (p : Option Addr) (ls : List Ru) (x : Ru) (w : World) (hT : PL base w p ls) :
    Calls Try.prog 13 #[.pointer p, .agg (ruc x).toArray] w fun e w' => e = .returned (.bool (hasB x ls)) ∧ Later w w' := by
  have lb0 : Later w (w.alloc (.cells (ruc x).toArray 30)) := (Below.refl _ _).alloc (Nat.le_refl _) _
  have c0 := heap_alloc_new w (.cells (ruc x).toArray 30)
  go_enter Try.func13, Try.ntmps13
  unfold ruc at *
  go_wp2_with fail
  generalize w.alloc _ = w0 at *
  refine ((callsIn_wide (n := 5)).1 (allU_in 5 p w0)).mono ?_
  rintro e w1 ⟨rfl, hw1⟩
  have l1 : Later w0 w1 := by rw [hw1]; exact (Below.refl _ _).alloc (Nat.le_refl _) _
  have b1 : w1.heap[w0.heap.size]? = some (.cells #[.pointer p] 22) := by rw [hw1]; exact heap_alloc_new w0 _
  generalize w0.heap.size = B at *
  clear hw1
  have hT1 := hT.later (lb0.trans l1)
  have d0 := later_keep l1 c0
  go_wp2_with fail
  refine (first_any base 22 #[.pointer (some ⟨w.heap.size, 0, none⟩)] p B ls (fun y => decide (y = x)) w1 hT1 (Array.getElem?_eq_some_iff.1 b1).1 ((block_cell b1 0).trans rfl) (enters_of Try.func22 (by kernel_rfl) rfl) (fun y hy W hW => has1_any y x w.heap.size W (later_keep hW d0))).mono ?_
  rintro e w2 ⟨rfl, l2⟩
  generalize fnd (fun y => decide (y = x)) ls = r at *
  generalize ht : fdb (fun y => decide (y = x)) ls = t at *
  have HT := hide ht
  clear ht
  unfold ruc
  go_wp2_with fail
  go_ret
  refine ⟨?_, (lb0.trans (l1.trans l2)).trans ((Below.refl _ _).alloc (Nat.le_refl _) _)⟩
  unfold hasB
  rw [HT.out]
  rfl
end Go.Proofs.Ytgjemeibaghfaab
