/- Package segs: numbers put at a header's end. -/
import Derived.Test.YtomdccljoaieeaaDoorSA
namespace Go.Proofs.YtomdccljoaieeaaDoor
open Go.RowKit Go.Shelf
set_option maxRecDepth 100000
set_option linter.unusedVariables false
set_option linter.unusedSimpArgs false

/-- A number's two bytes, its four. -/
def b2 (n : Int) : List Int := [n / 256, n % 256]
def b4 (n : Int) : List Int := [n / 65536 / 256, n / 65536 % 256, n % 65536 / 256, n % 65536 % 256]
theorem flat_take {α : Type} (f : Int → List α) (ns : List Int) (k : Nat) (h : k < ns.length) : (ns.take (k + 1)).flatMap f = (ns.take k).flatMap f ++ f (ns[k]?.getD 0) := by
  rw [List.take_succ_eq_append_getElem h, List.flatMap_append]
  simp [h]
theorem b2_len (ns : List Int) : (ns.flatMap b2).length = 2 * ns.length := by
  induction ns with
  | nil => rfl
  | cons a r ih => simp [List.flatMap_cons, b2] at ih ⊢; omega
theorem b4_len (ns : List Int) : (ns.flatMap b4).length = 4 * ns.length := by
  induction ns with
  | nil => rfl
  | cons a r ih => simp [List.flatMap_cons, b4] at ih ⊢; omega

set_option maxHeartbeats 2000000 in
theorem hput16_any (tl : List Value) (t tn : TypeId) (ub nb cap : Nat) (N : Nat → Prop) (ys ns : List Int) (w : World) (h : HSt tl t ub N ys w) (hN : ∀ b, N b → b < w.heap.size ∧ b ≠ ub) (hn : N nb)
    (hnb : w.heap[nb]? = some (.cells (ns.map (Value.int .u16)).toArray tn (0, 0))) (hbd : ∀ n ∈ ns, 0 ≤ n ∧ n ≤ 65535) (hl : ys.length + 2 * ns.length ≤ 140737488355328) (hcap : ns.length ≤ cap) :
    Calls Tryd.prog 26 #[.pointer (some ⟨ub, 0, none⟩), .slice (some ⟨nb, 0, none⟩) ns.length cap] w fun e w' => e = .returned (.tuple #[]) ∧ HSt tl t ub N (ys ++ ns.flatMap b2) w' ∧ But (fun b => ub ≤ b ∧ ¬ N b) w w' := by
  have hnl := (Array.getElem?_eq_some_iff.1 hnb).1
  go_enter Tryd.func26, Tryd.ntmps26
  go_wp2
  go_loopw [8] (fun i wr => ∃ k : Nat, k ≤ ns.length ∧ i = .int .i64 (k : Int) ∧ HSt tl t ub N (ys ++ (ns.take k).flatMap b2) wr ∧ But (fun b => ub ≤ b ∧ ¬ N b) w wr)
    (fun i _ => ns.length - (intOf i).toNat)
  case atStart => exact ⟨0, by omega, rfl, by simpa using h, But.refl _ _⟩
  case round =>
    obtain ⟨k, hk, rfl, hH, hB⟩ := hrel
    by_cases hlt : k < ns.length
    · have hc : wr.cell? ⟨nb, k, none⟩ = some (.int .u16 (ns[k]?.getD 0)) := by
        rw [block_cell ((hB.block nb hnl (fun e => e.2 hn)).trans hnb)]
        simp [hlt]
      have hz : 0 ≤ ns[k]?.getD 0 ∧ ns[k]?.getD 0 ≤ 65535 := by
        have := hbd ns[k] (List.getElem_mem hlt)
        simpa [hlt] using this
      have HF := hide (flat_take b2 ns k hlt)
      have hlen : ((ys ++ (ns.take k).flatMap b2)).length + 2 ≤ 140737488355328 := by rw [List.length_append, b2_len, List.length_take]; omega
      generalize ns[k]?.getD 0 = z at *
      have hlt' : (k : Int) < ns.length := by omega
      have hA : Later wr (wr.alloc (.cells #[.int .u8 (z / 256), .int .u8 (z % 256)] 5)) := (Below.refl _ _).alloc (Nat.le_refl _) _
      have hHA := (hH.alloc (.cells #[.int .u8 (z / 256), .int .u8 (z % 256)] 5)).weaken (N' := N) (fun b hb => .inl hb)
      have hR := Rd.new2 (z / 256) (z % 256) 5 wr
      go_wp2_with fail
      generalize wr.alloc (.cells #[.int .u8 (z / 256), .int .u8 (z % 256)] 5) = w1 at *
      refine (put_any tl t ub N _ _ [z / 256, z % 256] _ w1 hHA (fun b hb => ⟨Nat.lt_of_lt_of_le (hN b hb).1 (Nat.le_trans hB.size hA.size), (hN b hb).2⟩) hR hlen).mono ?_
      rintro e w2 ⟨rfl, hH2, hB2⟩
      go_wp2_with fail
      go_roundw
      case rel => exact ⟨k + 1, by omega, by go_num, by rw [HF.out, ← List.append_assoc]; exact hH2, (hB.trans (But.of hA)).trans hB2⟩
      case measure => simp [intOf]; omega
    · obtain rfl : k = ns.length := by omega
      rw [List.take_length] at hH
      go_wp2
      go_end0
      exact ⟨rfl, hH, hB⟩

end Go.Proofs.YtomdccljoaieeaaDoor