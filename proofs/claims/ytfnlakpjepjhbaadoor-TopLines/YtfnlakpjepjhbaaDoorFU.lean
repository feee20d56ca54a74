/- Package bytes: whether a line's end stands in more than eight bytes. -/
import Derived.Test.YtfnlakpjepjhbaaDoorFT
namespace Go.Proofs.YtfnlakpjepjhbaaDoor
open Go.RowKit Go.Shelf
set_option maxRecDepth 100000
set_option linter.unusedVariables false
set_option linter.unusedSimpArgs false

/-- Whether a byte is one of a line's end; whether any of these is. -/
def isCr (z : Int) : Bool := z == 13 || z == 10
def crl (zs : List Int) : Bool := zs.any isCr
theorem zero_set : Tryd.zeroCells116 = Array.replicate 256 (.bool false) := by kernel_rfl
theorem lsk_at (c : Nat) (hc : c < 256) : (lsk 2)[c]? = some (.bool (isCr (c : Int))) := by
  show ((Tryd.zeroCells116.setIfInBounds 13 (.bool true)).setIfInBounds 10 (.bool true))[c]? = _
  rw [zero_set]
  by_cases h10 : c = 10
  · subst h10; simp [isCr]
  by_cases h13 : c = 13
  · subst h13; simp [isCr]
  rw [Array.getElem?_setIfInBounds_ne (by omega), Array.getElem?_setIfInBounds_ne (by omega), Array.getElem?_replicate, if_pos hc]
  have e1 : ((c : Int) == 13) = false := by simp; omega
  have e2 : ((c : Int) == 10) = false := by simp; omega
  simp [isCr, e1, e2]

set_option maxHeartbeats 1000000 in
theorem setHas_any (g : Nat) (c : Int) (w : World) (hb : w.heap[g]? = some (.cells (lsk 2) 116 (0, 0))) (hc : 0 ≤ c ∧ c ≤ 255) :
    Calls Tryd.prog 66 #[.pointer (some ⟨g, 0, none⟩), .int .u8 c] w fun e w' => e = .returned (.bool (isCr c)) ∧ w' = w := by
  obtain ⟨n, rfl⟩ : ∃ n : Nat, c = (n : Int) := ⟨c.toNat, by omega⟩
  have k := (block_cell hb n).trans (lsk_at n (by omega))
  have hn : n < 256 := by omega
  have hn' : (n : Int) < 256 := by omega
  go_enter Tryd.func66, Tryd.ntmps66
  go_wp2_with fail
  go_ret
  exact ⟨rfl, rfl⟩

set_option maxHeartbeats 1000000 in
theorem useSet_any (n : Int) (w : World) : Calls Tryd.prog 64 #[.int .i64 n] w fun e w' => e = .returned (.bool (decide (8 < n))) ∧ w' = w := by
  go_enter Tryd.func64, Tryd.ntmps64
  go_wp2_with fail
  go_ret
  exact ⟨rfl, rfl⟩

set_option maxHeartbeats 4000000 in
theorem indexCr_any (sv : Value) (zs : List Int) (w : World) (hB : Mt.By zs) (hI : Rd w.heap.size w sv zs) (h8 : 8 < zs.length) :
    Calls Tryd.prog 47 #[sv, .string ⟨#[13, 10]⟩] w fun e w' => ∃ r : Int, e = .returned (.int .i64 r) ∧ decide (0 ≤ r) = crl zs ∧ Below w.heap.size w w' := by
  obtain ⟨av, cv, rfl, hlv, hmv⟩ := hI.slice
  have t1 : ((zs.length : Int) == 1) = false := by simp; omega
  have t8 : decide (8 < (zs.length : Int)) = true := by simp; omega
  go_enter Tryd.func47, Tryd.ntmps47
  go_upto_region 20 with fail
  clear t1
  go_wp2_with fail
  refine (useSet_any _ w).mono ?_
  rintro e w1 ⟨rfl, rfl⟩
  go_wp2_with fail
  refine (makeSet_any w1).mono ?_
  rintro e w2 ⟨rfl, b2⟩
  have hsz : (Tryd.prog.info? 116).map (·.size) = some (lsk 2).size := by rw [lsk_size]; kernel_rfl
  have hzz : Tryd.zeroCells116.size = (lsk 2).size := by rw [lsk_size]; kernel_rfl
  have B2 := heap_alloc_new w2 (.cells Tryd.zeroCells116 116)
  have la := (Below.refl w2.heap.size w2).alloc (Nat.le_refl _) (.cells Tryd.zeroCells116 116)
  have B3 := hide (setRow_heap _ _ _ (lsk 2) _ _ B2)
  have l3 : Later w1 ((w2.alloc (.cells Tryd.zeroCells116 116)).setRow w2.heap.size (lsk 2)) := Later.trans b2 ⟨la.os, la.tape, la.output, by rw [setRow_size]; exact la.size, fun i hi => by rw [setRow_other _ _ _ _ (by omega)]; exact la.block i hi⟩
  go_upto_region 22 with (refine wpList_store_row rfl 116 (.tmp 7) (.tmp 57) rfl w2.heap.size (lsk 2) rfl rfl 116 Tryd.zeroCells116 B2 hsz hzz lsk_one ?_)
  generalize (w2.alloc (.cells Tryd.zeroCells116 116)).setRow w2.heap.size (lsk 2) = w3 at *
  generalize w2.heap.size = g at *
  clear B2 la hsz hzz b2
  have hI3 := hI.later l3
  obtain ⟨bb, off, cp, he, hl5, hl6, hl7, hcell⟩ := hI3.cells (by omega)
  obtain ⟨rfl, rfl⟩ : av = some ⟨bb, off, none⟩ ∧ cv = cp := by injection he with h1 h2 h3; exact ⟨h1, h3⟩
  have HC := hide hcell
  clear hcell he hI hI3 t8
  go_wp2_with fail
  go_loopw [62] (fun iv wr => ∃ k : Nat, k ≤ zs.length ∧ iv = .int .i64 (k : Int) ∧ (zs.take k).any isCr = false ∧ wr = w3) (fun iv _ => zs.length - (intOf iv).toNat)
  case atStart => exact ⟨0, by omega, rfl, rfl, rfl⟩
  case round =>
    obtain ⟨k, hk, rfl, hno, rfl⟩ := hrel
    by_cases hlt : k < zs.length
    · have hlt' : (k : Int) < zs.length := by omega
      have hck := HC.out k hlt
      have hzb := Mt.By.at hB k
      have HT : Hid ((zs.take (k + 1)).any isCr = ((zs.take k).any isCr || isCr (zs[k]?.getD 0))) := by
        show _ = _
        rw [List.take_succ_eq_append_getElem hlt, List.any_append, List.getElem?_eq_getElem hlt]
        simp
      have HA : Hid (isCr (zs[k]?.getD 0) = true → crl zs = true) := fun h => by
        unfold crl
        rw [List.any_eq_true]
        refine ⟨zs[k]?.getD 0, ?_, h⟩
        rw [List.getElem?_eq_getElem hlt]
        exact List.getElem_mem hlt
      have HS := hide (setHas_any g (zs[k]?.getD 0) wr B3.out hzb)
      generalize zs[k]?.getD 0 = c at *
      cases hcr : isCr c with
      | true =>
        rw [hcr] at HS
        go_wp2_with fail
        refine HS.out.mono ?_
        rintro e w4 ⟨rfl, rfl⟩
        go_wp2_with fail
        go_ret
        exact ⟨k, rfl, by rw [HA.out hcr]; simp, l3⟩
      | false =>
        rw [hcr] at HS
        go_wp2_with fail
        refine HS.out.mono ?_
        rintro e w4 ⟨rfl, rfl⟩
        go_wp2_with fail
        go_roundw
        case rel => exact ⟨k + 1, hlt, by go_num, by rw [HT.out, hno, hcr]; rfl, trivial⟩
        case measure => simp [intOf]; omega
    · obtain rfl : k = zs.length := by omega
      rw [List.take_length] at hno
      go_wp2_with fail
      go_ret
      exact ⟨-1, rfl, by unfold crl; rw [hno]; rfl, l3⟩
end Go.Proofs.YtfnlakpjepjhbaaDoor
