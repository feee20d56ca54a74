/- GateNone: the walk. -/
import Derived.Test.YtnffjilmkpbelaaGreatDoorX1
import Derived.Test.YtnffjilmkpbelaaGreatDoorOpX
namespace Go.Proofs.YtnffjilmkpbelaaGreatDoor
open Go.RowKit Go.Shelf
set_option maxRecDepth 100000
set_option linter.unusedVariables false
set_option linter.unusedSimpArgs false

theorem gtick_nil (n : Int) (w : World) : Calls Tryz.prog 6 #[.pointer none, .int .i64 n] w fun e w' => (∃ v, e = .returned v) ∧ Later w w' := by
 go_enter Tryz.func6, Tryz.ntmps6
 go_wp2_with fail
 refine bodyPost_ret (results_none rfl _ _ _) rfl ?_
 exact ⟨⟨_, rfl⟩, Later.refl _⟩
theorem grule_nil (r : Ru) (w : World) : Calls Tryz.prog 8 #[.pointer none, .agg (ruc r).toArray] w fun e w' => e = .returned (.int .i64 1) ∧ Later w w' := by
 have la := later_allocG w (.cells (ruc r).toArray 28)
 unfold ruc at la ⊢
 go_enter Tryz.func8, Tryz.ntmps8
 go_wp2_with fail
 go_ret
 exact ⟨rfl, la⟩
theorem gflows_nil (w : World) : Calls Tryz.prog 9 #[.pointer none] w fun e w' => e = .returned (.slice none 0 0) ∧ Later w w' := by
 go_enter Tryz.func9, Tryz.ntmps9
 go_wp2_with fail
 go_ret
 exact ⟨rfl, Later.refl _⟩
theorem gexpects_nil (w : World) : Calls Tryz.prog 10 #[.pointer none] w fun e w' => e = .returned (.slice none 0 0) ∧ Later w w' := by
 go_enter Tryz.func10, Tryz.ntmps10
 go_wp2_with fail
 go_ret
 exact ⟨rfl, Later.refl _⟩
theorem gused_nil (p a : Int) (w : World) : Calls Tryz.prog 11 #[.pointer none, .int .u8 p, .int .u32 a] w fun e w' => e = .returned (.slice none 0 0) ∧ Later w w' := by
 go_enter Tryz.func11, Tryz.ntmps11
 go_wp2_with fail
 go_ret
 exact ⟨rfl, Later.refl _⟩
theorem gnow_nil (w : World) : Calls Tryz.prog 12 #[.pointer none] w fun e w' => e = .returned (.int .i64 0) ∧ Later w w' := by
 go_enter Tryz.func12, Tryz.ntmps12
 go_wp2_with fail
 go_ret
 exact ⟨rfl, Later.refl _⟩
theorem gfork_nil (w : World) : Calls Tryz.prog 13 #[.pointer none] w fun e w' => e = .returned (.pointer none) ∧ Later w w' := by
 go_enter Tryz.func13, Tryz.ntmps13
 go_wp2_with fail
 go_ret
 exact ⟨rfl, Later.refl _⟩

set_option maxHeartbeats 2000000 in
theorem gpacket_nil (nw side : Int) (sa : Option Addr) (sl sc : Nat) (w : World) : Calls Tryz.prog 5 #[.pointer none, .int .i64 nw, .int .i64 side, .slice sa sl sc] w fun e w' => e = .returned (.agg #[.int .i64 6, .int .i64 0, .slice none 0 0]) ∧ Later w w' := by
 have l0 := later_allocG w (.cells (oc 0).toArray 34)
 have C0 := hide (heap_alloc_new w (.cells (oc 0).toArray 34))
 go_enter Tryz.func5, Tryz.ntmps5
 go_upto_region 1 with fail
 change Code.wp _ _ _ _ (w.alloc (.cells (oc 0).toArray 34))
 generalize w.alloc (.cells (oc 0).toArray 34) = w1 at *
 generalize hgx : w.heap.size = gx at C0 ⊢
 have k0 := block_cell C0.out
 have f0 := block_frozen C0.out
 go_wp2_with fail
 generalize hV : (((w1.setCell ⟨gx, 0, none⟩ _).setCell ⟨gx, 1, none⟩ _).setCell ⟨gx, 2, none⟩ _) = V8
 have hV9 : V8 = putRow w1 gx 0 (oc 6) := hV.symm
 have hb8 : But (fun b => b = gx) w1 V8 := by rw [hV9]; exact putRow_but (E := fun b => b = gx) (n := gx) rfl _ _ _ _ (But.refl _ _)
 have p8 := putRow_all (oc 6) C0.out rfl
 rw [← hV9] at p8
 clear hV hV9
 have P8 := block_cell p8
 exact bodyPost_ret (v := .agg (oc 6).toArray) (by simp [results, Tryz.results5, go_sem, P8]) rfl ⟨rfl, Below.trans l0 (hb8.below l0.size (fun k hk e => by have e' : k = gx := e; omega))⟩

set_option maxRecDepth 100000 in
set_option maxHeartbeats 8000000 in
theorem walk_GateNone (w : World) (hT : Tb w) (hz : Dz w) (d : Aop) (hd : wfAo w.heap.size w d) (lo : Int) (hlo : 0 ≤ lo ∧ lo ≤ 65535) (hi : Int) (hhi : 0 ≤ hi ∧ hi ≤ 65535) :
  Calls Tryz.prog 3 #[.agg (aoc d).toArray, .int .u16 lo, .int .u16 hi] w fun e w' => e = .returned (.bool true) ∧ Below w.heap.size w w' := by
 obtain ⟨sa, sc, eb, _, _⟩ := hd.2.1.slice
 obtain ⟨sl, hsl⟩ : ∃ sl, d.bv = .slice sa sl sc := ⟨_, eb⟩
 have l0 := later_allocG w (.cells (aoc d).toArray 30)
 have C0 := hide (heap_alloc_new w (.cells (aoc d).toArray 30))
 have HT := hide (fun W (k : Later w W) => (⟨hT.later k, hz.later k⟩ : Tb W ∧ Dz W))
 unfold aoc at l0 C0 ⊢
 rw [hsl] at l0 C0 ⊢
 have HR := hide (fun W => grule_nil d.r W)
 unfold ruc at HR
 clear hT hz hd eb hsl
 go_enter Tryz.func3, Tryz.ntmps3
 go_upto_region 2 with fail
 generalize w.alloc _ = w1 at *
 generalize hgx : w.heap.size = gx at C0 ⊢
 have k0 := block_cell C0.out
 go_wp2_with fail
 refine (gpacket_nil d.nw d.sd sa sl sc w1).mono ?_
 rintro e w2 ⟨rfl, l2⟩
 clear k0
 have la := later_allocG w2 (.cells #[.int .i64 6, .int .i64 0, .slice none 0 0] 34)
 have X3 := hide (heap_alloc_new w2 (.cells #[.int .i64 6, .int .i64 0, .slice none 0 0] 34))
 have L13 : Later w1 (w2.alloc (.cells #[.int .i64 6, .int .i64 0, .slice none 0 0] 34)) := l2.trans la
 clear la l2
 go_upto_region 3 with fail
 change Code.wp _ _ _ _ (w2.alloc (.cells #[.int .i64 6, .int .i64 0, .slice none 0 0] 34))
 generalize w2.alloc (.cells #[.int .i64 6, .int .i64 0, .slice none 0 0] 34) = w3 at *
 have k0 := block_cell (later_keep L13 C0.out)
 go_wp2_with fail
 refine (gtick_nil d.nw w3).mono ?_
 rintro e w4 ⟨⟨v4, rfl⟩, l4⟩
 clear k0
 have L4 : Later w w4 := l0.trans (L13.trans l4)
 go_wp2_with fail
 refine (live16_any w4 (HT.out w4 L4).1 (HT.out w4 L4).2).mono ?_
 rintro e w5 ⟨rfl, l5⟩
 have L35 : Later w3 w5 := l4.trans l5
 have L5 : Later w w5 := L4.trans l5
 have k0 := block_cell (later_keep (L13.trans L35) C0.out)
 have ko := block_cell (later_keep L35 X3.out)
 go_wp2_with fail
 refine (HR.out w5).mono ?_
 rintro e w6 ⟨rfl, l6⟩
 clear k0 ko
 go_wp2_with fail
 refine (gflows_nil w6).mono ?_
 rintro e w7 ⟨rfl, l7⟩
 go_wp2_with fail
 refine (gexpects_nil w7).mono ?_
 rintro e w8 ⟨rfl, l8⟩
 go_wp2_with fail
 refine (gused_nil 6 1 w8).mono ?_
 rintro e w9 ⟨rfl, l9⟩
 go_wp2_with fail
 refine (gnow_nil w9).mono ?_
 rintro e w10 ⟨rfl, l10⟩
 go_wp2_with fail
 refine (gfork_nil w10).mono ?_
 rintro e w11 ⟨rfl, l11⟩
 have L11 : Later w w11 := L5.trans (l6.trans (l7.trans (l8.trans (l9.trans (l10.trans l11)))))
 clear l6 l7 l8 l9 l10 l11 L5 L35 L13 L4
 by_cases h0 : lo = 0
 ·subst h0
  go_wp2_with fail
  refine (gnew_no 0 hi w11 (.inl rfl)).mono ?_
  rintro e w12 ⟨rfl, rfl⟩
  go_wp2_with fail
  go_ret
  exact ⟨rfl, L11⟩
 have t0 : (lo == 0) = false := by rw [beq_eq_false_iff_ne]; exact h0
 by_cases h1 : hi < lo
 ·go_wp2_with fail
  refine (gnew_no lo hi w11 (.inr h1)).mono ?_
  rintro e w12 ⟨rfl, rfl⟩
  go_wp2_with fail
  go_ret
  exact ⟨rfl, L11⟩
 ·go_wp2_with fail
  refine (gnew_yes lo hi w11 h0 (by omega)).mono ?_
  rintro e w12 ⟨g, s, rfl, l12, _⟩
  go_wp2_with fail
  go_ret
  exact ⟨by simp [h1], L11.trans l12⟩
end Go.Proofs.YtnffjilmkpbelaaGreatDoor
