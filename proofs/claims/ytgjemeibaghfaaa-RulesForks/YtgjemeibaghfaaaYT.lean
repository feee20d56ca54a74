/- Whether both sides' rules tell the same; the walk of RulesPlays. -/
import Derived.Test.YtgjemeibaghfaaaYS
namespace Go.Proofs.Ytgjemeibaghfaaa
open Go.RowKit Go.Shelf
set_option maxRecDepth 100000
set_option linter.unusedVariables false
set_option linter.unusedSimpArgs false

set_option maxHeartbeats 8000000 in
theorem sameQ_any (base a b : Nat) (l : List Ru) (src pr dst pt : Int) (w : World) (hP : PQ base w a b l) (hok : okL l) (hs : 0 ≤ src ∧ src ≤ 4294967295) :
    Calls Try.prog 11 #[.pointer (some ⟨a, 0, none⟩), .pointer (some ⟨b, 0, none⟩), .agg #[.int .u32 src, .int .u8 pr, .int .u32 dst, .int .u16 pt]] w fun e w' => e = .returned (.bool true) ∧ Later w w' := by
  obtain ⟨va, vb, hA, hB, hap⟩ := hP
  have hl5 : l.length ≤ 5000 := by have := hok.1; omega
  have lb0 : Later w (w.alloc (.cells #[.int .u32 src, .int .u8 pr, .int .u32 dst, .int .u16 pt] 26)) := (Below.refl _ _).alloc (Nat.le_refl _) _
  have c0 := heap_alloc_new w (.cells #[.int .u32 src, .int .u8 pr, .int .u32 dst, .int .u16 pt] 26)
  go_enter Try.func11, Try.ntmps11
  go_upto_region 1 with fail
  generalize w.alloc _ = w0 at *
  have k0 := block_cell c0
  go_wp2_with fail
  refine (masq_any base (some ⟨a, 0, none⟩) l src w0 (.inr ⟨a, va, rfl, hA.later lb0⟩) hok hs).mono ?_
  rintro e w1 ⟨rfl, l1⟩
  generalize hx : fnd (mqB src) l = x at *
  generalize htx : fdb (mqB src) l = tx at *
  have HX := hide hx
  have HTX := hide htx
  clear hx htx
  have la1 : Later w1 (w1.alloc (.cells #[.int .i64 x.kind, .int .u8 x.proto, .int .u32 x.net, .int .i64 x.bits, .int .u32 x.to, .int .u16 x.port, .int .u32 x.host, .int .u16 x.hp] 36)) := (Below.refl _ _).alloc (Nat.le_refl _) _
  have z1 := heap_alloc_new w1 (.cells #[.int .i64 x.kind, .int .u8 x.proto, .int .u32 x.net, .int .i64 x.bits, .int .u32 x.to, .int .u16 x.port, .int .u32 x.host, .int .u16 x.hp] 36)
  have L1 := lb0.trans (l1.trans la1)
  have q1 := later_keep (l1.trans la1) c0
  clear k0
  have k1 := block_cell q1
  unfold ruc
  go_upto_region 2 with fail
  generalize w1.alloc _ = w2 at *
  generalize w1.heap.size = B1 at *
  clear l1 la1 c0 lb0
  go_wp2_with fail
  refine (rmasq9_any base b vb l src w2 (hB.later L1) hok hs).mono ?_
  rw [HX.out, HTX.out]
  rintro e w3 ⟨rfl, l3⟩
  have la3 : Later w3 (w3.alloc (.cells #[.int .i64 x.kind, .int .u8 x.proto, .int .u32 x.net, .int .i64 x.bits, .int .u32 x.to, .int .u16 x.port, .int .u32 x.host, .int .u16 x.hp] 36)) := (Below.refl _ _).alloc (Nat.le_refl _) _
  have z3 := heap_alloc_new w3 (.cells #[.int .i64 x.kind, .int .u8 x.proto, .int .u32 x.net, .int .i64 x.bits, .int .u32 x.to, .int .u16 x.port, .int .u32 x.host, .int .u16 x.hp] 36)
  have L3 := L1.trans (l3.trans la3)
  have q3 := later_keep (l3.trans la3) q1
  replace z1 := later_keep (l3.trans la3) z1
  clear k1 q1
  have k3 := block_cell q3
  unfold ruc
  go_upto_region 3 with fail
  generalize w3.alloc _ = w4 at *
  generalize w3.heap.size = B3 at *
  clear l3 la3 L1
  go_wp2_with fail
  refine (dnat_any base (some ⟨a, 0, none⟩) l pr dst pt w4 (.inr ⟨a, va, rfl, hA.later L3⟩)).mono ?_
  rintro e w5 ⟨rfl, l5⟩
  generalize hy : fnd (dnB pr dst pt) l = y at *
  generalize hty : fdb (dnB pr dst pt) l = ty at *
  have HY := hide hy
  have HTY := hide hty
  clear hy hty
  have la5 : Later w5 (w5.alloc (.cells #[.int .i64 y.kind, .int .u8 y.proto, .int .u32 y.net, .int .i64 y.bits, .int .u32 y.to, .int .u16 y.port, .int .u32 y.host, .int .u16 y.hp] 36)) := (Below.refl _ _).alloc (Nat.le_refl _) _
  have z5 := heap_alloc_new w5 (.cells #[.int .i64 y.kind, .int .u8 y.proto, .int .u32 y.net, .int .i64 y.bits, .int .u32 y.to, .int .u16 y.port, .int .u32 y.host, .int .u16 y.hp] 36)
  have L5 := L3.trans (l5.trans la5)
  have q5 := later_keep (l5.trans la5) q3
  replace z1 := later_keep (l5.trans la5) z1
  replace z3 := later_keep (l5.trans la5) z3
  clear k3 q3
  have k5 := block_cell q5
  unfold ruc
  go_upto_region 4 with fail
  generalize w5.alloc _ = w6 at *
  generalize w5.heap.size = B5 at *
  clear l5 la5 L3
  go_wp2_with fail
  refine (rdnat9_any base b vb l pr dst pt w6 (hB.later L5)).mono ?_
  rw [HY.out, HTY.out]
  rintro e w7 ⟨rfl, l7⟩
  have la7 : Later w7 (w7.alloc (.cells #[.int .i64 y.kind, .int .u8 y.proto, .int .u32 y.net, .int .i64 y.bits, .int .u32 y.to, .int .u16 y.port, .int .u32 y.host, .int .u16 y.hp] 36)) := (Below.refl _ _).alloc (Nat.le_refl _) _
  have z7 := heap_alloc_new w7 (.cells #[.int .i64 y.kind, .int .u8 y.proto, .int .u32 y.net, .int .i64 y.bits, .int .u32 y.to, .int .u16 y.port, .int .u32 y.host, .int .u16 y.hp] 36)
  have L7 := L5.trans (l7.trans la7)
  replace z1 := later_keep (l7.trans la7) z1
  replace z3 := later_keep (l7.trans la7) z3
  replace z5 := later_keep (l7.trans la7) z5
  clear k5 q5
  unfold ruc
  go_upto_region 5 with fail
  generalize w7.alloc _ = w8 at *
  generalize w7.heap.size = B7 at *
  clear l7 la7 L5
  have y1 := block_cell z1
  have y3 := block_cell z3
  have y5 := block_cell z5
  have y7 := block_cell z7
  go_wp2_with fail
  refine (list9_any base (some ⟨a, 0, none⟩) l w8 (.inr ⟨a, va, rfl, hA.later L7⟩) hl5).mono ?_
  rintro e w9 ⟨l9, u9, rfl, hu9⟩
  obtain ⟨a9, c9, rfl, _, _⟩ := (ownU_rd hu9).slice
  have hr9 := ownU_rd hu9
  have HR9 := hide hr9
  clear hr9 hu9 y1 y3 y5 y7
  have L9 := L7.trans l9
  go_wp2_with fail
  refine (rlist9_any base b vb l w9 (hB.later L9) hl5).mono ?_
  rintro e w10 ⟨l10, u10, rfl, hu10⟩
  obtain ⟨a10, c10, rfl, _, _⟩ := (ownU_rd hu10).slice
  have hr10 := ownU_rd hu10
  have HR10 := hide hr10
  clear hr10 hu10
  go_wp2_with fail
  refine (same9_any w9.heap.size w10.heap.size _ _ l l w10 (HR9.out.below l10) HR10.out l10.size (Nat.le_refl _)).mono ?_
  rw [decide_eq_true (show l = l from rfl)]
  rintro e w11 ⟨rfl, l11⟩
  go_wp2_with fail
  go_ret
  exact ⟨rfl, L9.trans (l10.trans l11)⟩

set_option maxHeartbeats 8000000 in
theorem walk_RulesPlays (w : World) (sv : Value) (ds : List Dd) (hI : RdD w.heap.size w sv ds) (hd : ∀ d ∈ ds, wfD d) (src pr dst pt : Int) (hs : 0 ≤ src ∧ src ≤ 4294967295) (hp : 0 ≤ pr ∧ pr ≤ 255) (hds : 0 ≤ dst ∧ dst ≤ 4294967295) (hpt : 0 ≤ pt ∧ pt ≤ 65535) :
    Calls Try.prog 3 #[sv, .agg #[.int .u32 src, .int .u8 pr, .int .u32 dst, .int .u16 pt]] w fun e w' => e = .returned (.bool true) ∧ Below w.heap.size w w' := by
  obtain ⟨aa, ca, rfl, ha1, ha2⟩ := hI.slice
  have lb0 : Later w (w.alloc (.cells #[.int .u32 src, .int .u8 pr, .int .u32 dst, .int .u16 pt] 26)) := (Below.refl _ _).alloc (Nat.le_refl _) _
  have c0 := heap_alloc_new w (.cells #[.int .u32 src, .int .u8 pr, .int .u32 dst, .int .u16 pt] 26)
  go_enter Try.func3, Try.ntmps3
  go_upto_region 1 with fail
  generalize w.alloc _ = w0 at *
  go_wp2_with fail
  refine (play9_any w.heap.size _ ds w0 (hI.below lb0) hd lb0.size).mono ?_
  rintro e w1 ⟨l1, a, b, rfl, hPQ⟩
  go_wp2_with fail
  refine (live9_any w1).mono ?_
  rintro e w2 ⟨rfl, l2⟩
  have k2 := block_cell (later_keep (l1.trans l2) c0)
  go_wp2_with fail
  refine (sameQ_any w0.heap.size a b _ src pr dst pt w2 (hPQ.later l2) (okL_play okL_nil (fun d hx => hd d (List.mem_of_mem_take hx))) hs).mono ?_
  rintro e w3 ⟨rfl, l3⟩
  go_wp2_with fail
  go_ret
  exact ⟨rfl, lb0.trans (l1.trans (l2.trans l3))⟩
end Go.Proofs.Ytgjemeibaghfaaa
