/- The walk of SegsTcp. -/
import Derived.Test.YtclkfmdlgffbeaaTL
import Derived.Test.YtclkfmdlgffbeaaTD
import Derived.Test.YtclkfmdlgffbeaaSS
namespace Go.Proofs.Ytclkfmdlgffbeaa
open Go.RowKit Go.Shelf
set_option maxRecDepth 100000
set_option linter.unusedVariables false
set_option linter.unusedSimpArgs false

theorem rdO_nil (w : World) : RdO w.heap.size w (.slice none 0 0) [] := .inl ⟨none, 0, rfl, rfl, by omega, fun _ => rfl⟩
theorem rd_nil (w : World) : Rd w.heap.size w (.slice none 0 0) [] := .inl ⟨none, 0, rfl, rfl, by omega, fun _ => rfl⟩

set_option maxHeartbeats 8000000 in
theorem walk_SegsTcp (w : World) (tos id ttl proto src dst : Int) (keep : Bool) (so sd : Value) (zo zd : List Int) (hBo : Mt.By zo) (hBd : Mt.By zd) (hIo : Rd w.heap.size w so zo) (hId : Rd w.heap.size w sd zd) (h1 : zo.length ≤ 140737488351232) (h2 : zd.length ≤ 140737488351232) (ht : 0 ≤ tos ∧ tos ≤ 255) (hid : 0 ≤ id ∧ id ≤ 65535) (htt : 0 ≤ ttl ∧ ttl ≤ 255) (hpr : 0 ≤ proto ∧ proto ≤ 255) (hsr : 0 ≤ src ∧ src ≤ 4294967295) (hds : 0 ≤ dst ∧ dst ≤ 4294967295) (hsm : zd.length ≤ 1048576) :
    Calls Try.prog 3 #[.agg #[.int .u8 tos, .int .u16 id, .bool keep, .int .u8 ttl, .int .u8 proto, .int .u32 src, .int .u32 dst, so, sd]] w fun e w' => e = .returned (.bool true) ∧ Below w.heap.size w w' := by
  obtain ⟨ao, co, rfl, _, _⟩ := hIo.slice
  obtain ⟨ad, cd, rfl, _, _⟩ := hId.slice
  have hb0 : Below w.heap.size w (w.alloc (.cells #[.int .u8 tos, .int .u16 id, .bool keep, .int .u8 ttl, .int .u8 proto, .int .u32 src, .int .u32 dst, .slice ao zo.length co, .slice ad zd.length cd] 26)) := (Below.refl _ _).alloc (Nat.le_refl _) _
  have p0 := heap_alloc_new w (.cells #[.int .u8 tos, .int .u16 id, .bool keep, .int .u8 ttl, .int .u8 proto, .int .u32 src, .int .u32 dst, .slice ao zo.length co, .slice ad zd.length cd] 26)
  have P0 := hide p0
  clear p0
  go_enter Try.func3, Try.ntmps3
  go_wp2_with fail
  generalize w.alloc (.cells #[.int .u8 tos, .int .u16 id, .bool keep, .int .u8 ttl, .int .u8 proto, .int .u32 src, .int .u32 dst, .slice ao zo.length co, .slice ad zd.length cd] 26) = W0 at *
  refine (parseTcp_any tos id ttl proto src dst keep _ _ zd W0 hBd ((hId.below hb0).mono hb0.size) (by omega) hsr hds).mono ?_
  rintro e w1 ⟨hb1, h3⟩
  have hw1 := hb0.trans (hb1.mono hb0.size)
  have p1 := later_keep hb1 P0.out
  have hs1 := (Array.getElem?_eq_some_iff.1 p1).1
  generalize hpu : pte proto src dst zd = pc at *
  have HPU := hide hpu
  clear hpu
  rcases h3 with ⟨hf, rfl⟩ | ⟨hf, os1, aO1, cO1, a1, c1, hos1, rfl, hOO1, hO1⟩
  · have HF := hide hf
    clear hf
    go_upto_region 2 with fail
    generalize hV : w1.alloc _ = W2
    have l2 : Later w1 W2 := by rw [← hV]; exact (Below.refl _ w1).alloc (Nat.le_refl _) _
    have x2 : W2.heap[w1.heap.size]? = some (.cells zsg.toArray 29 (0, 0)) := by rw [← hV]; exact heap_alloc_new w1 _
    clear hV
    have hw2 := hw1.trans (l2.mono hw1.size)
    have p2 := later_keep l2 p1
    have K2 := block_cell p2
    go_wp2_with fail
    refine (rparseTcp_any tos id ttl proto src dst keep _ _ zd W2 hBd ((hId.below hw2).mono hw2.size) (by omega) hsr hds).mono ?_
    rw [HPU.out]
    rintro e w3 ⟨hb3, ⟨_, rfl⟩ | ⟨h0, _⟩⟩
    · have hw3 := hw2.trans (hb3.mono hw2.size)
      have x3 := later_keep hb3 x2
      clear K2
      go_upto_region 3 with fail
      generalize hV : w3.alloc _ = W4
      have l4 : Later w3 W4 := by rw [← hV]; exact (Below.refl _ w3).alloc (Nat.le_refl _) _
      have y4 : W4.heap[w3.heap.size]? = some (.cells zsg.toArray 29 (0, 0)) := by rw [← hV]; exact heap_alloc_new w3 _
      clear hV
      have hw4 := hw3.trans (l4.mono hw3.size)
      have x4 := later_keep l4 x3
      have hXO := rdO_nil W4
      have hXa := rd_nil W4
      go_wp2_with fail
      refine (live3_any _).mono ?_
      rintro e w5 ⟨rfl, hb5⟩
      have hw5 := hw4.trans (hb5.mono hw4.size)
      have X5 := block_cell (later_keep hb5 x4)
      have Y5 := block_cell (later_keep hb5 y4)
      go_wp2_with fail
      refine (rsameTcp_yes 0 0 0 0 0 0 0 _ _ _ _ [] [] w5 ((hXO.below hb5).mono hb5.size) ((hXO.below hb5).mono hb5.size) (hXa.later hb5) (hXa.later hb5)).mono ?_
      rintro e w6 ⟨rfl, hb6⟩
      have hw6 := hw5.trans (hb6.mono hw5.size)
      go_wp2_with fail
      go_ret
      exact ⟨by simp, hw6⟩
    · exact absurd h0 HF.out
  · have HF := hide hf
    subst hf
    have HOS := hide hos1
    clear hos1
    go_upto_region 2 with fail
    generalize hV : w1.alloc _ = W2
    have l2 : Later w1 W2 := by rw [← hV]; exact (Below.refl _ w1).alloc (Nat.le_refl _) _
    have x2 : W2.heap[w1.heap.size]? = some (.cells #[.int .u16 (wat zd 0), .int .u16 (wat zd 2), .int .u32 (wat4 zd 4), .int .u32 (wat4 zd 8), .int .u8 (zd[13]?.getD 0), .int .u16 (wat zd 14), .int .u16 (wat zd 18), .slice aO1 os1.length cO1, .slice a1 (zd.length - (thd zd).toNat) c1] 29 (0, 0)) := by rw [← hV]; exact heap_alloc_new w1 _
    clear hV
    have hw2 := hw1.trans (l2.mono hw1.size)
    have p2 := later_keep l2 p1
    have hO2 := hO1.later l2
    have hOO2 := hOO1.later l2
    have K2 := block_cell p2
    go_wp2_with fail
    refine (rparseTcp_any tos id ttl proto src dst keep _ _ zd W2 hBd ((hId.below hw2).mono hw2.size) (by omega) hsr hds).mono ?_
    rw [HPU.out]
    rintro e w3 ⟨hb3, ⟨h0, _⟩ | ⟨_, os3, aO3, cO3, a3, c3, hos3, rfl, hOO3, hO3⟩⟩
    · exact absurd rfl h0
    · obtain rfl : os1 = os3 := Option.some.inj (HOS.out.symm.trans hos3)
      clear hos3
      have hw3 := hw2.trans (hb3.mono hw2.size)
      have x3 := later_keep hb3 x2
      have hOa3 := hO2.later hb3
      have hOOa3 := hOO2.later hb3
      clear K2
      go_upto_region 3 with fail
      generalize hV : w3.alloc _ = W4
      have l4 : Later w3 W4 := by rw [← hV]; exact (Below.refl _ w3).alloc (Nat.le_refl _) _
      have y4 : W4.heap[w3.heap.size]? = some (.cells #[.int .u16 (wat zd 0), .int .u16 (wat zd 2), .int .u32 (wat4 zd 4), .int .u32 (wat4 zd 8), .int .u8 (zd[13]?.getD 0), .int .u16 (wat zd 14), .int .u16 (wat zd 18), .slice aO3 os1.length cO3, .slice a3 (zd.length - (thd zd).toNat) c3] 29 (0, 0)) := by rw [← hV]; exact heap_alloc_new w3 _
      clear hV
      have hw4 := hw3.trans (l4.mono hw3.size)
      have x4 := later_keep l4 x3
      have hXa := (hOa3.later l4).rd
      have hXb := (hO3.later l4).rd
      have hXO := (hOOa3.later l4).rd
      have hXP := (hOO3.later l4).rd
      go_wp2_with fail
      refine (live3_any _).mono ?_
      rintro e w5 ⟨rfl, hb5⟩
      have hw5 := hw4.trans (hb5.mono hw4.size)
      have X5 := block_cell (later_keep hb5 x4)
      have Y5 := block_cell (later_keep hb5 y4)
      go_wp2_with fail
      refine (rsameTcp_yes _ _ _ _ _ _ _ _ _ _ _ os1 (zd.drop (thd zd).toNat) w5 ((hXO.below hb5).mono hb5.size) ((hXP.below hb5).mono hb5.size) (hXa.later hb5) (hXb.later hb5)).mono ?_
      rintro e w6 ⟨rfl, hb6⟩
      have hw6 := hw5.trans (hb6.mono hw5.size)
      go_wp2_with fail
      go_ret
      exact ⟨by simp, hw6⟩
end Go.Proofs.Ytclkfmdlgffbeaa
