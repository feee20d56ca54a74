/- The walk of RulesFirst. -/
import Derived.Test.YtgjemeibaghfaaaYU
namespace Go.Proofs.Ytgjemeibaghfaaa
open Go.RowKit Go.Shelf
set_option maxRecDepth 100000
set_option linter.unusedVariables false
set_option linter.unusedSimpArgs false

theorem fnd_app {q : Ru → Bool} {l : List Ru} (x : Ru) (h : fdb q l = true) : fnd q (adL l x) = fnd q l ∧ fdb q (adL l x) = true := by
  have : adL l x = l ∨ adL l x = l ++ [x] := by
    by_cases h0 : adE l x = 0
    · exact .inr (adL_yes h0)
    · exact .inl (adL_no h0)
  rcases this with e | e
  · rw [e]; exact ⟨rfl, h⟩
  · rw [e]
    unfold fdb fnd at *
    cases hf : l.find? q with
    | none => rw [hf] at h; cases h
    | some y => rw [List.find?_append, hf]; exact ⟨rfl, rfl⟩

set_option maxHeartbeats 8000000 in
theorem walk_RulesFirst (w : World) (sv : Value) (ds : List Dd) (hI : RdD w.heap.size w sv ds) (hd : ∀ d ∈ ds, wfD d) (src pr dst pt : Int) (hs : 0 ≤ src ∧ src ≤ 4294967295) (hp : 0 ≤ pr ∧ pr ≤ 255) (hds : 0 ≤ dst ∧ dst ≤ 4294967295) (hpt : 0 ≤ pt ∧ pt ≤ 65535) (x : Ru) (hx : wfR x) :
    Calls Try.prog 5 #[sv, .agg #[.int .u32 src, .int .u8 pr, .int .u32 dst, .int .u16 pt], .agg (ruc x).toArray] w fun e w' => e = .returned (.bool true) ∧ Below w.heap.size w w' := by
  obtain ⟨aa, ca, rfl, ha1, ha2⟩ := hI.slice
  have lb0 : Later w ((w.alloc (.cells #[.int .u32 src, .int .u8 pr, .int .u32 dst, .int .u16 pt] 26)).alloc (.cells #[.int .i64 x.kind, .int .u8 x.proto, .int .u32 x.net, .int .i64 x.bits, .int .u32 x.to, .int .u16 x.port, .int .u32 x.host, .int .u16 x.hp] 36)) := ((Below.refl _ _).alloc (Nat.le_refl _) _).alloc (by simp) _
  have c0 : ((w.alloc (.cells #[.int .u32 src, .int .u8 pr, .int .u32 dst, .int .u16 pt] 26)).alloc (.cells #[.int .i64 x.kind, .int .u8 x.proto, .int .u32 x.net, .int .i64 x.bits, .int .u32 x.to, .int .u16 x.port, .int .u32 x.host, .int .u16 x.hp] 36)).heap[w.heap.size]? = some (.cells #[.int .u32 src, .int .u8 pr, .int .u32 dst, .int .u16 pt] 26) := (Below.heap_alloc _ _ _ (by simp)).trans (heap_alloc_new w _)
  have d0 : ((w.alloc (.cells #[.int .u32 src, .int .u8 pr, .int .u32 dst, .int .u16 pt] 26)).alloc (.cells #[.int .i64 x.kind, .int .u8 x.proto, .int .u32 x.net, .int .i64 x.bits, .int .u32 x.to, .int .u16 x.port, .int .u32 x.host, .int .u16 x.hp] 36)).heap[w.heap.size + 1]? = some (.cells #[.int .i64 x.kind, .int .u8 x.proto, .int .u32 x.net, .int .i64 x.bits, .int .u32 x.to, .int .u16 x.port, .int .u32 x.host, .int .u16 x.hp] 36) := by
    have := heap_alloc_new (w.alloc (.cells #[.int .u32 src, .int .u8 pr, .int .u32 dst, .int .u16 pt] 26)) (.cells #[.int .i64 x.kind, .int .u8 x.proto, .int .u32 x.net, .int .i64 x.bits, .int .u32 x.to, .int .u16 x.port, .int .u32 x.host, .int .u16 x.hp] 36)
    rwa [World.size_alloc] at this
  go_enter Try.func5, Try.ntmps5
  unfold ruc
  go_upto_region 1 with fail
  generalize (w.alloc (.cells #[.int .u32 src, .int .u8 pr, .int .u32 dst, .int .u16 pt] 26)).alloc (.cells #[.int .i64 x.kind, .int .u8 x.proto, .int .u32 x.net, .int .i64 x.bits, .int .u32 x.to, .int .u16 x.port, .int .u32 x.host, .int .u16 x.hp] 36) = w0 at *
  go_wp2_with fail
  refine (play9_any w.heap.size _ ds w0 (hI.below lb0) hd lb0.size).mono ?_
  rintro e w1 ⟨l1, a, b, rfl, va, vb, hA, hB, hap⟩
  have hok : okL (plL [] (ds.take 60)) := okL_play okL_nil (fun d hx => hd d (List.mem_of_mem_take hx))
  generalize plL [] (ds.take 60) = l at *
  clear hB hap
  go_wp2_with fail
  refine (live9_any w1).mono ?_
  rintro e w2 ⟨rfl, l2⟩
  have c2 := later_keep (l1.trans l2) c0
  have d2 := later_keep (l1.trans l2) d0
  have hA2 := hA.later l2
  have L2 := lb0.trans (l1.trans l2)
  have k2 := block_cell c2
  have hs0 : w0.heap.size ≤ w2.heap.size := (l1.trans l2).size
  have hw0 := lb0.size
  have hw0' := (Array.getElem?_eq_some_iff.1 d0).1
  clear c0 d0 l1 l2 lb0 hA
  go_upto_region 4 with fail
  go_wp2_with fail
  refine (masq_any w0.heap.size (some ⟨a, 0, none⟩) l src w2 (.inr ⟨a, va, rfl, hA2⟩) hok hs).mono ?_
  rintro e w3 ⟨rfl, l3⟩
  generalize hm : fnd (mqB src) l = m at *
  generalize htm : fdb (mqB src) l = tm at *
  have HM := hide hm
  have HTM := hide htm
  clear hm htm
  have la3 : Later w3 (w3.alloc (.cells #[.int .i64 m.kind, .int .u8 m.proto, .int .u32 m.net, .int .i64 m.bits, .int .u32 m.to, .int .u16 m.port, .int .u32 m.host, .int .u16 m.hp] 36)) := (Below.refl _ _).alloc (Nat.le_refl _) _
  have z3 := heap_alloc_new w3 (.cells #[.int .i64 m.kind, .int .u8 m.proto, .int .u32 m.net, .int .i64 m.bits, .int .u32 m.to, .int .u16 m.port, .int .u32 m.host, .int .u16 m.hp] 36)
  have c4 := later_keep (l3.trans la3) c2
  have d4 := later_keep (l3.trans la3) d2
  have hA4 := hA2.later (l3.trans la3)
  have L4 := L2.trans (l3.trans la3)
  have hB3 : w2.heap.size ≤ w3.heap.size := l3.size
  clear k2
  have k4 := block_cell c4
  unfold ruc
  go_upto_region 5 with fail
  generalize w3.alloc _ = w4 at *
  generalize w3.heap.size = B3 at *
  clear c2 d2 l3 la3
  go_wp2_with fail
  refine (dnat_any w0.heap.size (some ⟨a, 0, none⟩) l pr dst pt w4 (.inr ⟨a, va, rfl, hA4⟩)).mono ?_
  rintro e w5 ⟨rfl, l5⟩
  generalize hn : fnd (dnB pr dst pt) l = n at *
  generalize htn : fdb (dnB pr dst pt) l = tn at *
  have HN := hide hn
  have HTN := hide htn
  clear hn htn
  have la5 : Later w5 (w5.alloc (.cells #[.int .i64 n.kind, .int .u8 n.proto, .int .u32 n.net, .int .i64 n.bits, .int .u32 n.to, .int .u16 n.port, .int .u32 n.host, .int .u16 n.hp] 36)) := (Below.refl _ _).alloc (Nat.le_refl _) _
  have z5 := heap_alloc_new w5 (.cells #[.int .i64 n.kind, .int .u8 n.proto, .int .u32 n.net, .int .i64 n.bits, .int .u32 n.to, .int .u16 n.port, .int .u32 n.host, .int .u16 n.hp] 36)
  have c6 := later_keep (l5.trans la5) c4
  have d6 := later_keep (l5.trans la5) d4
  have z6 := later_keep (l5.trans la5) z3
  have hA6 := hA4.later (l5.trans la5)
  have L6 := L4.trans (l5.trans la5)
  have hB5 : w4.heap.size ≤ w5.heap.size := l5.size
  have hB4 := (Array.getElem?_eq_some_iff.1 z3).1
  clear k4
  have k6 := block_cell d6
  unfold ruc
  go_upto_region 6 with fail
  generalize w5.alloc _ = w6 at *
  generalize w5.heap.size = B5 at *
  clear c4 d4 z3 l5 la5
  have hs6 := L6.size
  have hvl : ∀ g, va.ownBlock = some g → w0.heap.size ≤ g ∧ g < w2.heap.size := fun g hg => ⟨(hA2.lt hg).1, (hA2.lt hg).2⟩
  have hal := hA2.blt
  have hab : w0.heap.size ≤ a := hA2.1
  go_wp2_with fail
  refine (add9_any w0.heap.size a va l x w6 hA6 hx hok.1 (by have := (Array.getElem?_eq_some_iff.1 z5).1; omega)).mono ?_
  rintro e w7 ⟨rfl, va7, hA7, b7, f7⟩
  have hno : ∀ g, g < w0.heap.size ∨ w2.heap.size ≤ g → ¬ (g = a ∨ va.ownBlock = some g) := fun g hg e => by
    rcases e with e | e
    · omega
    · have := hvl g e; omega
  have c7 := (b7.block w.heap.size (Array.getElem?_eq_some_iff.1 c6).1 (hno _ (.inl (by omega)))).trans c6
  have z7 := (b7.block B3 (Array.getElem?_eq_some_iff.1 z6).1 (hno _ (.inr (by omega)))).trans z6
  have y7 := (b7.block B5 (Array.getElem?_eq_some_iff.1 z5).1 (hno _ (.inr (by omega)))).trans z5
  have L7 : Later w w7 := Below.trans L6 (b7.below hs6 (fun k hk e => hno k (.inl (by omega)) e))
  have hok7 := okL_add hok hx
  clear k6 c6 d6 z6 z5
  have k7 := block_cell c7
  go_wp2_with fail
  refine (masq_any w0.heap.size (some ⟨a, 0, none⟩) (adL l x) src w7 (.inr ⟨a, va7, rfl, hA7⟩) hok7 hs).mono ?_
  rintro e w8 ⟨rfl, l8⟩
  have HMM : Hid (tm = true → fnd (mqB src) (adL l x) = m ∧ fdb (mqB src) (adL l x) = true) := fun ht => by
    have := fnd_app x (HTM.out.trans ht)
    rw [HM.out] at this
    exact this
  generalize fnd (mqB src) (adL l x) = m8 at *
  generalize fdb (mqB src) (adL l x) = tm8 at *
  have la8 : Later w8 (w8.alloc (.cells #[.int .i64 m8.kind, .int .u8 m8.proto, .int .u32 m8.net, .int .i64 m8.bits, .int .u32 m8.to, .int .u16 m8.port, .int .u32 m8.host, .int .u16 m8.hp] 36)) := (Below.refl _ _).alloc (Nat.le_refl _) _
  have x8 := heap_alloc_new w8 (.cells #[.int .i64 m8.kind, .int .u8 m8.proto, .int .u32 m8.net, .int .i64 m8.bits, .int .u32 m8.to, .int .u16 m8.port, .int .u32 m8.host, .int .u16 m8.hp] 36)
  have c9 := later_keep (l8.trans la8) c7
  have z9 := later_keep (l8.trans la8) z7
  have y9 := later_keep (l8.trans la8) y7
  have hA9 := hA7.later (l8.trans la8)
  have L9 := L7.trans (l8.trans la8)
  clear k7
  have k9 := block_cell c9
  unfold ruc
  go_upto_region 8 with fail
  generalize w8.alloc _ = w9 at *
  generalize w8.heap.size = B8 at *
  clear c7 z7 y7 l8 la8
  go_wp2_with fail
  refine (dnat_any w0.heap.size (some ⟨a, 0, none⟩) (adL l x) pr dst pt w9 (.inr ⟨a, va7, rfl, hA9⟩)).mono ?_
  rintro e w10 ⟨rfl, l10⟩
  have HNN : Hid (tn = true → fnd (dnB pr dst pt) (adL l x) = n ∧ fdb (dnB pr dst pt) (adL l x) = true) := fun ht => by
    have := fnd_app x (HTN.out.trans ht)
    rw [HN.out] at this
    exact this
  generalize fnd (dnB pr dst pt) (adL l x) = n10 at *
  generalize fdb (dnB pr dst pt) (adL l x) = tn10 at *
  have la10 : Later w10 (w10.alloc (.cells #[.int .i64 n10.kind, .int .u8 n10.proto, .int .u32 n10.net, .int .i64 n10.bits, .int .u32 n10.to, .int .u16 n10.port, .int .u32 n10.host, .int .u16 n10.hp] 36)) := (Below.refl _ _).alloc (Nat.le_refl _) _
  have x10 := heap_alloc_new w10 (.cells #[.int .i64 n10.kind, .int .u8 n10.proto, .int .u32 n10.net, .int .i64 n10.bits, .int .u32 n10.to, .int .u16 n10.port, .int .u32 n10.host, .int .u16 n10.hp] 36)
  have z11 := later_keep (l10.trans la10) z9
  have y11 := later_keep (l10.trans la10) y9
  have x11 := later_keep (l10.trans la10) x8
  have L11 := L9.trans (l10.trans la10)
  clear k9
  unfold ruc
  go_upto_region 9 with fail
  generalize w10.alloc _ = w11 at *
  generalize w10.heap.size = B10 at *
  clear c9 z9 y9 l10 la10 x8
  have K1 := block_cell z11
  have K2 := block_cell y11
  have K3 := block_cell x11
  have K4 := block_cell x10
  cases tm with
  | false =>
    cases tn with
    | false =>
      go_wp2_with fail
      go_ret
      exact ⟨rfl, L11⟩
    | true =>
      obtain ⟨rfl, rfl⟩ := HNN.out rfl
      go_wp2_with fail
      go_ret
      exact ⟨rfl, L11⟩
  | true =>
    obtain ⟨rfl, rfl⟩ := HMM.out rfl
    cases tn with
    | false =>
      go_wp2_with fail
      go_ret
      exact ⟨rfl, L11⟩
    | true =>
      obtain ⟨rfl, rfl⟩ := HNN.out rfl
      go_wp2_with fail
      go_ret
      exact ⟨rfl, L11⟩
end Go.Proofs.Ytgjemeibaghfaaa
