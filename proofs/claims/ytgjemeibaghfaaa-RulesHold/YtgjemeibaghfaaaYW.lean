/- The walk of RulesHold. -/
import Derived.Test.YtgjemeibaghfaaaYV
namespace Go.Proofs.Ytgjemeibaghfaaa
open Go.RowKit Go.Shelf
set_option maxRecDepth 100000
set_option linter.unusedVariables false
set_option linter.unusedSimpArgs false

theorem fnd_holds {q : Ru → Bool} {l : List Ru} (h : fdb q l = true) : q (fnd q l) = true ∧ fnd q l ∈ l := by
  unfold fdb fnd at *
  cases hf : l.find? q with
  | none => rw [hf] at h; cases h
  | some y => exact ⟨List.find?_some hf, List.mem_of_find?_eq_some hf⟩
theorem upp_div (n k : Int) : upp n k / 2 ^ (32 - k.toNat) = n / 2 ^ (32 - k.toNat) := by
  unfold upp
  rw [Int.mul_ediv_cancel]
  exact Int.ne_of_gt (Int.pow_pos (by omega))

set_option maxHeartbeats 8000000 in
theorem walk_RulesHold (w : World) (sv : Value) (ds : List Dd) (hI : RdD w.heap.size w sv ds) (hd : ∀ d ∈ ds, wfD d) (src pr dst pt : Int) (hs : 0 ≤ src ∧ src ≤ 4294967295) (hp : 0 ≤ pr ∧ pr ≤ 255) (hds : 0 ≤ dst ∧ dst ≤ 4294967295) (hpt : 0 ≤ pt ∧ pt ≤ 65535) :
    Calls Try.prog 6 #[sv, .agg #[.int .u32 src, .int .u8 pr, .int .u32 dst, .int .u16 pt]] w fun e w' => e = .returned (.bool true) ∧ Below w.heap.size w w' := by
  obtain ⟨aa, ca, rfl, ha1, ha2⟩ := hI.slice
  have lb0 : Later w (w.alloc (.cells #[.int .u32 src, .int .u8 pr, .int .u32 dst, .int .u16 pt] 26)) := (Below.refl _ _).alloc (Nat.le_refl _) _
  have c0 := heap_alloc_new w (.cells #[.int .u32 src, .int .u8 pr, .int .u32 dst, .int .u16 pt] 26)
  go_enter Try.func6, Try.ntmps6
  go_upto_region 1 with fail
  generalize w.alloc _ = w0 at *
  go_wp2_with fail
  refine (play9_any w.heap.size _ ds w0 (hI.below lb0) hd lb0.size).mono ?_
  rintro e w1 ⟨l1, a, b, rfl, va, vb, hA, hB, hap⟩
  have hok : okL (plL [] (ds.take 60)) := okL_play okL_nil (fun d hx => hd d (List.mem_of_mem_take hx))
  generalize plL [] (ds.take 60) = l at *
  clear hB hap
  go_wp2_with fail
  refine (live9_any w1).mono ?_
  rintro e w2 ⟨rfl, l2⟩
  have c2 := later_keep (l1.trans l2) c0
  have hA2 := hA.later l2
  have L2 := lb0.trans (l1.trans l2)
  have k2 := block_cell c2
  clear c0 l1 l2 lb0 hA
  go_upto_region 4 with fail
  go_wp2_with fail
  refine (masq_any w0.heap.size (some ⟨a, 0, none⟩) l src w2 (.inr ⟨a, va, rfl, hA2⟩) hok hs).mono ?_
  rintro e w3 ⟨rfl, l3⟩
  have HMM : Hid (fdb (mqB src) l = true → (fnd (mqB src) l).kind = 1 ∧ 0 ≤ (fnd (mqB src) l).bits ∧ (fnd (mqB src) l).bits ≤ 32 ∧ (fnd (mqB src) l).net / 2 ^ (32 - (fnd (mqB src) l).bits.toNat) = src / 2 ^ (32 - (fnd (mqB src) l).bits.toNat) ∧ (0 ≤ (fnd (mqB src) l).net ∧ (fnd (mqB src) l).net ≤ 4294967295)) := fun ht => by
    obtain ⟨h1, h2⟩ := fnd_holds ht
    have hw := hok.2 _ h2
    generalize fnd (mqB src) l = y at *
    unfold mqB at h1
    simp at h1
    obtain ⟨h3, h4⟩ := h1
    have hb := rtB_bits hw.2 h3
    exact ⟨h3, hb.1, hb.2, by rw [← h4, upp_div], hw.1.2.2.1⟩
  generalize fnd (mqB src) l = m at *
  generalize fdb (mqB src) l = tm at *
  have la3 : Later w3 (w3.alloc (.cells #[.int .i64 m.kind, .int .u8 m.proto, .int .u32 m.net, .int .i64 m.bits, .int .u32 m.to, .int .u16 m.port, .int .u32 m.host, .int .u16 m.hp] 36)) := (Below.refl _ _).alloc (Nat.le_refl _) _
  have z3 := heap_alloc_new w3 (.cells #[.int .i64 m.kind, .int .u8 m.proto, .int .u32 m.net, .int .i64 m.bits, .int .u32 m.to, .int .u16 m.port, .int .u32 m.host, .int .u16 m.hp] 36)
  have c4 := later_keep (l3.trans la3) c2
  have hA4 := hA2.later (l3.trans la3)
  have L4 := L2.trans (l3.trans la3)
  clear k2
  have k4 := block_cell c4
  unfold ruc
  go_upto_region 5 with fail
  generalize w3.alloc _ = w4 at *
  generalize w3.heap.size = B3 at *
  clear c2 l3 la3
  go_wp2_with fail
  refine (dnat_any w0.heap.size (some ⟨a, 0, none⟩) l pr dst pt w4 (.inr ⟨a, va, rfl, hA4⟩)).mono ?_
  rintro e w5 ⟨rfl, l5⟩
  have HNN : Hid (fdb (dnB pr dst pt) l = true → (fnd (dnB pr dst pt) l).kind = 2 ∧ (fnd (dnB pr dst pt) l).proto = pr ∧ (fnd (dnB pr dst pt) l).to = dst ∧ (fnd (dnB pr dst pt) l).port = pt) := fun ht => by
    obtain ⟨h1, h2⟩ := fnd_holds ht
    generalize fnd (dnB pr dst pt) l = y at *
    unfold dnB at h1
    simp at h1
    exact h1
  generalize fnd (dnB pr dst pt) l = n at *
  generalize fdb (dnB pr dst pt) l = tn at *
  have la5 : Later w5 (w5.alloc (.cells #[.int .i64 n.kind, .int .u8 n.proto, .int .u32 n.net, .int .i64 n.bits, .int .u32 n.to, .int .u16 n.port, .int .u32 n.host, .int .u16 n.hp] 36)) := (Below.refl _ _).alloc (Nat.le_refl _) _
  have z5 := heap_alloc_new w5 (.cells #[.int .i64 n.kind, .int .u8 n.proto, .int .u32 n.net, .int .i64 n.bits, .int .u32 n.to, .int .u16 n.port, .int .u32 n.host, .int .u16 n.hp] 36)
  have c6 := later_keep (l5.trans la5) c4
  have z6 := later_keep (l5.trans la5) z3
  have L6 := L4.trans (l5.trans la5)
  clear k4
  have k6 := block_cell c6
  unfold ruc
  go_upto_region 6 with fail
  generalize w5.alloc _ = w6 at *
  generalize w5.heap.size = B5 at *
  clear c4 z3 l5 la5
  have K3 := block_cell z6
  have fin : ∀ (nq : Nat), Later w6 (w6.drewN nq) := fun nq => below_draw (Later.refl _) _
  cases tm with
  | false =>
    go_quiet (fail)
    have c7 := later_keep (fin nq) c6
    have z7 := later_keep (fin nq) z5
    have L7 := L6.trans (fin nq)
    clear k6 K3
    generalize w6.drewN nq = w7 at *
    have k7 := block_cell c7
    have K7 := block_cell z7
    cases tn with
    | false =>
      go_wp2_with fail
      go_ret
      exact ⟨rfl, L7⟩
    | true =>
      obtain ⟨n1, n2, n3, n4⟩ := HNN.out rfl
      go_wp2_with fail
      go_ret
      exact ⟨rfl, L7⟩
  | true =>
    obtain ⟨m1, m2, m3, m4, m5⟩ := HMM.out rfl
    have e1 : (32 - m.bits).toNat = 32 - m.bits.toNat := by omega
    have m2' : ¬ m.bits < 0 := by omega
    have m3' : ¬ 32 < m.bits := by omega
    have m6 : 0 ≤ 32 - m.bits := by omega
    have m7 : 32 - m.bits ≤ 64 := by omega
    have m8 : m.net / 2 ^ (32 - m.bits).toNat = src / 2 ^ (32 - m.bits).toNat := by rw [e1]; exact m4
    have M4 := hide m4
    have E1 := hide e1
    clear m4 e1
    go_quiet (fail)
    have c7 := later_keep (fin nq) c6
    have z7 := later_keep (fin nq) z5
    have L7 := L6.trans (fin nq)
    clear k6 K3
    generalize w6.drewN nq = w7 at *
    have k7 := block_cell c7
    have K7 := block_cell z7
    clear m1 m2 m3 m5 m8 m2' m3' m6 m7
    cases tn with
    | false =>
      go_wp2_with fail
      go_ret
      exact ⟨rfl, L7⟩
    | true =>
      obtain ⟨n1, n2, n3, n4⟩ := HNN.out rfl
      go_wp2_with fail
      go_ret
      exact ⟨rfl, L7⟩
end Go.Proofs.Ytgjemeibaghfaaa
