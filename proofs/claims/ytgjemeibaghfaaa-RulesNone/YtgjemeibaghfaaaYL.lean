/- The walk of RulesNone. -/
import Derived.Test.YtgjemeibaghfaaaYK
import Derived.Test.YtgjemeibaghfaaaOpB
namespace Go.Proofs.Ytgjemeibaghfaaa
open Go.RowKit Go.Shelf
set_option maxRecDepth 100000
set_option linter.unusedVariables false
set_option linter.unusedSimpArgs false

set_option maxHeartbeats 8000000 in
theorem none9_any (w : World) (x : Ru) (drp : Bool) (at0 : Int) (hx : wfR x) (ha : -9223372036854775808 ≤ at0 ∧ at0 ≤ 9223372036854775807) (src pr dst pt : Int) (hs : 0 ≤ src ∧ src ≤ 4294967295) (hp : 0 ≤ pr ∧ pr ≤ 255) (hd : 0 ≤ dst ∧ dst ≤ 4294967295) (hpt : 0 ≤ pt ∧ pt ≤ 65535) :
    Calls Try.prog 8 #[.agg #[.int .i64 x.kind, .int .u8 x.proto, .int .u32 x.net, .int .i64 x.bits, .int .u32 x.to, .int .u16 x.port, .int .u32 x.host, .int .u16 x.hp, .bool drp, .int .i64 at0], .agg #[.int .u32 src, .int .u8 pr, .int .u32 dst, .int .u16 pt]] w fun e w' => e = .returned (.bool true) ∧ Below w.heap.size w w' := by
  have hZ : ∀ q : Ru → Bool, fnd q [] = zRu ∧ fdb q [] = false := fun q => fnd_no (fun x hx => by cases hx)
  have okn : okL [] := ⟨by simp, fun x hx => by cases hx⟩
  have pln : ∀ W, PL w.heap.size W none [] := fun W => .inl ⟨rfl, rfl⟩
  have lb0 : Later w ((w.alloc (.cells #[.int .i64 x.kind, .int .u8 x.proto, .int .u32 x.net, .int .i64 x.bits, .int .u32 x.to, .int .u16 x.port, .int .u32 x.host, .int .u16 x.hp, .bool drp, .int .i64 at0] 51)).alloc (.cells #[.int .u32 src, .int .u8 pr, .int .u32 dst, .int .u16 pt] 26)) := ((Below.refl _ _).alloc (Nat.le_refl _) _).alloc (by simp) _
  have c0 : ((w.alloc (.cells #[.int .i64 x.kind, .int .u8 x.proto, .int .u32 x.net, .int .i64 x.bits, .int .u32 x.to, .int .u16 x.port, .int .u32 x.host, .int .u16 x.hp, .bool drp, .int .i64 at0] 51)).alloc (.cells #[.int .u32 src, .int .u8 pr, .int .u32 dst, .int .u16 pt] 26)).heap[w.heap.size]? = _ := (Below.heap_alloc _ _ _ (by simp)).trans (heap_alloc_new w _)
  have c1 : ((w.alloc (.cells #[.int .i64 x.kind, .int .u8 x.proto, .int .u32 x.net, .int .i64 x.bits, .int .u32 x.to, .int .u16 x.port, .int .u32 x.host, .int .u16 x.hp, .bool drp, .int .i64 at0] 51)).alloc (.cells #[.int .u32 src, .int .u8 pr, .int .u32 dst, .int .u16 pt] 26)).heap[w.heap.size + 1]? = some (.cells #[.int .u32 src, .int .u8 pr, .int .u32 dst, .int .u16 pt] 26) := by
    have := heap_alloc_new (w.alloc (.cells #[.int .i64 x.kind, .int .u8 x.proto, .int .u32 x.net, .int .i64 x.bits, .int .u32 x.to, .int .u16 x.port, .int .u32 x.host, .int .u16 x.hp, .bool drp, .int .i64 at0] 51)) (.cells #[.int .u32 src, .int .u8 pr, .int .u32 dst, .int .u16 pt] 26)
    rwa [World.size_alloc] at this
  have HZ := hide hZ
  clear hZ
  go_enter Try.func8, Try.ntmps8
  go_upto_region 2 with fail
  generalize (w.alloc (.cells #[.int .i64 x.kind, .int .u8 x.proto, .int .u32 x.net, .int .i64 x.bits, .int .u32 x.to, .int .u16 x.port, .int .u32 x.host, .int .u16 x.hp, .bool drp, .int .i64 at0] 51)).alloc (.cells #[.int .u32 src, .int .u8 pr, .int .u32 dst, .int .u16 pt] 26) = w0 at *
  have k0 := block_cell c0
  have k1 := block_cell c1
  go_wp2_with fail
  refine (masq_any w.heap.size none [] src w0 (pln w0) okn hs).mono ?_
  rw [(HZ.out _).1, (HZ.out _).2]
  rintro e w1 ⟨rfl, l1⟩
  have la1 : Later w1 (w1.alloc (.cells (ruc zRu).toArray 36)) := (Below.refl _ _).alloc (Nat.le_refl _) _
  have z1 := heap_alloc_new w1 (.cells (ruc zRu).toArray 36)
  have g0 := later_keep (l1.trans la1) c0
  have g1 := later_keep (l1.trans la1) c1
  clear k0 k1
  have k1 := block_cell g1
  have L1 := lb0.trans (l1.trans la1)
  clear c0 c1 lb0 l1
  unfold ruc zRu at la1 z1 g0 g1 k1 L1
  unfold ruc
  simp only [zRu]
  go_wp2_with fail
  generalize hB1 : w1.heap.size = B1 at *
  generalize w1.alloc _ = w2 at *
  refine (dnat_any w.heap.size none [] pr dst pt w2 (pln w2)).mono ?_
  rw [(HZ.out _).1, (HZ.out _).2]
  rintro e w3 ⟨rfl, l3⟩
  have la3 : Later w3 (w3.alloc (.cells (ruc zRu).toArray 36)) := (Below.refl _ _).alloc (Nat.le_refl _) _
  have z3 := heap_alloc_new w3 (.cells (ruc zRu).toArray 36)
  have z1' := later_keep (l3.trans la3) z1
  have h0 := later_keep (l3.trans la3) g0
  have L3 := L1.trans (l3.trans la3)
  clear k1 g0 g1 z1 la1 L1 hB1
  unfold ruc zRu at la3 z3 z1' h0 L3
  unfold ruc
  simp only [zRu]
  go_wp2_with fail
  generalize hB3 : w3.heap.size = B3 at *
  generalize w3.alloc _ = w4 at *
  refine (live9_any w4).mono ?_
  rintro e w5 ⟨rfl, l5⟩
  have a0 := later_keep l5 h0
  have a1 := later_keep l5 z1'
  have a3 := later_keep l5 z3
  have k5 := block_cell a0
  go_wp2_with fail
  refine (add9_nil x w5).mono ?_
  rintro e w6 ⟨rfl, l6⟩
  have b0 := later_keep l6 a0
  have b1 := later_keep l6 a1
  have b3 := later_keep l6 a3
  clear k5
  have k6 := block_cell b0
  go_wp2_with fail
  refine (drop9_nil at0 w6).mono ?_
  rintro e w7 ⟨rfl, rfl⟩
  go_wp2_with fail
  refine (list9_any w.heap.size none [] w7 (pln w7) (by simp)).mono ?_
  rintro e w8 ⟨l8, v, rfl, hv⟩
  obtain ⟨sa, cap, rfl, _, _⟩ := (ownU_rd hv).slice
  clear hv k6
  have d1 := block_cell (later_keep l8 b1)
  have d3 := block_cell (later_keep l8 b3)
  go_wp2_with fail
  refine (fork9_nil w8).mono ?_
  rintro e w9 ⟨rfl, rfl⟩
  go_wp2_with fail
  go_ret
  exact ⟨rfl, L3.trans (l5.trans (l6.trans l8))⟩

theorem walk_RulesNone (w : World) (d : Dd) (hd : wfD d) (src pr dst pt : Int) (hs : 0 ≤ src ∧ src ≤ 4294967295) (hp : 0 ≤ pr ∧ pr ≤ 255) (hd : 0 ≤ dst ∧ dst ≤ 4294967295) (hpt : 0 ≤ pt ∧ pt ≤ 65535) :
    Calls Try.prog 8 #[.agg (ddc d).toArray, .agg #[.int .u32 src, .int .u8 pr, .int .u32 dst, .int .u16 pt]] w fun e w' => e = .returned (.bool true) ∧ Below w.heap.size w w' :=
  none9_any w d.r d.drop d.at0 ‹wfD d›.1 ‹wfD d›.2 src pr dst pt hs hp hd hpt
end Go.Proofs.Ytgjemeibaghfaaa
