/- The walk of the law CtrlSizes. -/
import Derived.Test.YtcdeiakeiehaaaaDoorVR
import Derived.Test.YtcdeiakeiehaaaaDoorCE
namespace Go.Proofs.YtcdeiakeiehaaaaDoor
open Go.RowKit Go.Shelf
set_option maxRecDepth 100000
set_option linter.unusedVariables false
set_option linter.unusedSimpArgs false

set_option maxHeartbeats 4000000 in
theorem walk_CtrlSizes (w : World) (hT : Tb w) (tos id ttl proto src dst : Int) (keep : Bool) (so sd : Value) (zo zd : List Int) (hBo : Mt.By zo) (hBd : Mt.By zd) (hIo : Rd w.heap.size w so zo) (hId : Rd w.heap.size w sd zd) (hlo : zo.length ≤ 140737488355328) (hld : zd.length ≤ 140737488355328)
    (ht : 0 ≤ tos ∧ tos ≤ 255) (hid : 0 ≤ id ∧ id ≤ 65535) (htt : 0 ≤ ttl ∧ ttl ≤ 255) (hpr : 0 ≤ proto ∧ proto ≤ 255) (hsr : 0 ≤ src ∧ src ≤ 4294967295) (hds : 0 ≤ dst ∧ dst ≤ 4294967295)
    (cl sq ak : Int) (hs ha : Bool) (sm : Value) (zm : List Int) (hBm : Mt.By zm) (hIm : Rd w.heap.size w sm zm) (hlm : zm.length ≤ 140737488351232) (hcl : 0 ≤ cl ∧ cl ≤ 65535) (hsq : 0 ≤ sq ∧ sq ≤ 4294967295) (hak : 0 ≤ ak ∧ ak ≤ 4294967295) :
    Calls Tryd.prog 5 #[.agg #[.int .u8 tos, .int .u16 id, .bool keep, .int .u8 ttl, .int .u8 proto, .int .u32 src, .int .u32 dst, so, sd], .agg #[.int .u16 cl, .bool hs, .bool ha, .int .u32 sq, .int .u32 ak, sm]] w fun e w' => e = .returned (.bool true) ∧ Below w.heap.size w w' := by
  obtain ⟨ao, co, rfl, hl1, hm1⟩ := hIo.slice
  obtain ⟨ad, cd, rfl, hl2, hm2⟩ := hId.slice
  obtain ⟨am, cm, rfl, hl3, hm3⟩ := hIm.slice
  have hb0 : Below w.heap.size w ((w.alloc (.cells #[.int .u8 tos, .int .u16 id, .bool keep, .int .u8 ttl, .int .u8 proto, .int .u32 src, .int .u32 dst, .slice ao zo.length co, .slice ad zd.length cd] 26)).alloc (.cells #[.int .u16 cl, .bool hs, .bool ha, .int .u32 sq, .int .u32 ak, .slice am zm.length cm] 30)) := ((Below.refl _ _).alloc (Nat.le_refl _) _).alloc (by simp) _
  have q0 : ((w.alloc (.cells #[.int .u8 tos, .int .u16 id, .bool keep, .int .u8 ttl, .int .u8 proto, .int .u32 src, .int .u32 dst, .slice ao zo.length co, .slice ad zd.length cd] 26)).alloc (.cells #[.int .u16 cl, .bool hs, .bool ha, .int .u32 sq, .int .u32 ak, .slice am zm.length cm] 30)).heap[w.heap.size]? = some (.cells #[.int .u8 tos, .int .u16 id, .bool keep, .int .u8 ttl, .int .u8 proto, .int .u32 src, .int .u32 dst, .slice ao zo.length co, .slice ad zd.length cd] 26) := (Below.heap_alloc _ _ _ (by simp)).trans (heap_alloc_new w _)
  have p0 : ((w.alloc (.cells #[.int .u8 tos, .int .u16 id, .bool keep, .int .u8 ttl, .int .u8 proto, .int .u32 src, .int .u32 dst, .slice ao zo.length co, .slice ad zd.length cd] 26)).alloc (.cells #[.int .u16 cl, .bool hs, .bool ha, .int .u32 sq, .int .u32 ak, .slice am zm.length cm] 30)).heap[w.heap.size + 1]? = some (.cells #[.int .u16 cl, .bool hs, .bool ha, .int .u32 sq, .int .u32 ak, .slice am zm.length cm] 30 (0, 0)) := by
    have := heap_alloc_new (w.alloc (.cells #[.int .u8 tos, .int .u16 id, .bool keep, .int .u8 ttl, .int .u8 proto, .int .u32 src, .int .u32 dst, .slice ao zo.length co, .slice ad zd.length cd] 26)) (.cells #[.int .u16 cl, .bool hs, .bool ha, .int .u32 sq, .int .u32 ak, .slice am zm.length cm] 30)
    simpa using this
  have P0 := hide p0
  have Q0 := hide q0
  clear p0 q0
  by_cases hg : grf hs ha sq ak = true
  · go_enter Tryd.func5, Tryd.ntmps5
    go_wp2_with fail
    generalize (w.alloc (.cells #[.int .u8 tos, .int .u16 id, .bool keep, .int .u8 ttl, .int .u8 proto, .int .u32 src, .int .u32 dst, .slice ao zo.length co, .slice ad zd.length cd] 26)).alloc (.cells #[.int .u16 cl, .bool hs, .bool ha, .int .u32 sq, .int .u32 ak, .slice am zm.length cm] 30) = W0 at *
    refine (buildGre_bad tos id ttl proto src dst cl sq ak keep hs ha _ _ _ W0 hg).mono ?_
    rintro e w1 ⟨hb1, rfl⟩
    have hw1 := hb0.trans (hb1.mono hb0.size)
    have hbA : Later w1 (w1.alloc (.cells zcc.toArray 26)) := (Below.refl _ _).alloc (Nat.le_refl _) _
    have k2 := heap_alloc_new w1 (.cells zcc.toArray 26)
    go_wp2_with fail
    generalize w1.alloc (.cells zcc.toArray 26) = w2 at *
    have hw2 := hw1.trans (hbA.mono hw1.size)
    refine (live4_any w2 (hT.below hw2 hT.pos)).mono ?_
    rintro e w3 ⟨rfl, hb3⟩
    have K3 := block_cell ((hb3.block w1.heap.size (Array.getElem?_eq_some_iff.1 k2).1).trans k2)
    go_wp2_with fail
    refine (rsame_any 0 0 0 0 0 0 0 0 0 0 0 0 false false (.slice none 0 0) (.slice none 0 0) (.slice none 0 0) (.slice none 0 0) [] [] [] [] w3 Mt.By.nil Mt.By.nil Mt.By.nil Mt.By.nil (rd_zero w3) (rd_zero w3) (rd_zero w3) (rd_zero w3)).mono ?_
    rintro e w4 ⟨rfl, hb4⟩
    rw [show smP 0 0 0 0 0 0 0 0 0 0 0 0 false false [] [] [] [] = true from rfl]
    go_wp2
    go_ret
    exact ⟨rfl, hw2.trans ((Later.trans hb3 hb4).mono hw2.size)⟩
  · have hg' : grf hs ha sq ak = false := by simpa using hg
    clear hg
    go_enter Tryd.func5, Tryd.ntmps5
    go_wp2_with fail
    generalize (w.alloc (.cells #[.int .u8 tos, .int .u16 id, .bool keep, .int .u8 ttl, .int .u8 proto, .int .u32 src, .int .u32 dst, .slice ao zo.length co, .slice ad zd.length cd] 26)).alloc (.cells #[.int .u16 cl, .bool hs, .bool ha, .int .u32 sq, .int .u32 ak, .slice am zm.length cm] 30) = W0 at *
    refine (buildGre_any tos id ttl proto src dst cl sq ak keep hs ha _ _ _ zo zm W0 (hT.below hb0 hT.pos) hBo ((hIo.below hb0).mono hb0.size) hBm ((hIm.below hb0).mono hb0.size) hlo (by omega) ht hid htt hsr hds hcl hsq hak hg').mono ?_
    rintro e w1 ⟨hb1, ⟨hf, rfl⟩ | ⟨hf, ao1, co1, ad1, cd1, rfl, hO1, hD1⟩⟩
    · have hw1 := hb0.trans (hb1.mono hb0.size)
      have hf' : (flt zo.length (grn hs ha zm.length) != 0) = true := by simp [hf]
      generalize flt zo.length (grn hs ha zm.length) = fl at *
      clear hf
      have hbA : Later w1 (w1.alloc (.cells zcc.toArray 26)) := (Below.refl _ _).alloc (Nat.le_refl _) _
      have k2 := heap_alloc_new w1 (.cells zcc.toArray 26)
      go_wp2_with fail
      generalize w1.alloc (.cells zcc.toArray 26) = w2 at *
      have hw2 := hw1.trans (hbA.mono hw1.size)
      refine (live4_any w2 (hT.below hw2 hT.pos)).mono ?_
      rintro e w3 ⟨rfl, hb3⟩
      have K3 := block_cell ((hb3.block w1.heap.size (Array.getElem?_eq_some_iff.1 k2).1).trans k2)
      go_wp2_with fail
      refine (rsame_any 0 0 0 0 0 0 0 0 0 0 0 0 false false (.slice none 0 0) (.slice none 0 0) (.slice none 0 0) (.slice none 0 0) [] [] [] [] w3 Mt.By.nil Mt.By.nil Mt.By.nil Mt.By.nil (rd_zero w3) (rd_zero w3) (rd_zero w3) (rd_zero w3)).mono ?_
      rintro e w4 ⟨rfl, hb4⟩
      rw [show smP 0 0 0 0 0 0 0 0 0 0 0 0 false false [] [] [] [] = true from rfl]
      go_wp2
      go_ret
      exact ⟨rfl, hw2.trans ((Later.trans hb3 hb4).mono hw2.size)⟩
    · have hw1 := hb0.trans (hb1.mono hb0.size)
      clear hf
      obtain ⟨gl, HG⟩ : ∃ gl, Hid (grn hs ha zm.length = gl) := ⟨_, rfl⟩
      rw [HG.out]
      have hbA : Later w1 (w1.alloc (.cells #[.int .u8 tos, .int .u16 id, .bool keep, .int .u8 ttl, .int .u8 47, .int .u32 src, .int .u32 dst, .slice ao1 zo.length co1, .slice ad1 gl cd1] 26)) := (Below.refl _ _).alloc (Nat.le_refl _) _
      have k2 := heap_alloc_new w1 (.cells #[.int .u8 tos, .int .u16 id, .bool keep, .int .u8 ttl, .int .u8 47, .int .u32 src, .int .u32 dst, .slice ao1 zo.length co1, .slice ad1 gl cd1] 26)
      have hw2 := hw1.trans (hbA.mono hw1.size)
      have p1 := (hb1.block (w.heap.size + 1) (Array.getElem?_eq_some_iff.1 P0.out).1).trans P0.out
      have q1 := (hb1.block w.heap.size (Array.getElem?_eq_some_iff.1 Q0.out).1).trans Q0.out
      have p2 := (hbA.block (w.heap.size + 1) (Array.getElem?_eq_some_iff.1 p1).1).trans p1
      have q2 := (hbA.block w.heap.size (Array.getElem?_eq_some_iff.1 q1).1).trans q1
      have P2 := block_cell p2
      have Q2 := block_cell q2
      clear hg'
      cases hs
      · cases ha
        · have HL : Hid ((grn false false zm.length : Int) = 8 + (zm.length : Int)) := by show _ = _; simp [grn] <;> omega
          go_wp2_with fail
          generalize w1.alloc (.cells #[.int .u8 tos, .int .u16 id, .bool keep, .int .u8 ttl, .int .u8 47, .int .u32 src, .int .u32 dst, .slice ao1 zo.length co1, .slice ad1 gl cd1] 26) = w2 at *
          refine (live4_any w2 (hT.below hw2 hT.pos)).mono ?_
          rintro e w3 ⟨rfl, hb3⟩
          have k3 := (hb3.block w1.heap.size (Array.getElem?_eq_some_iff.1 k2).1).trans k2
          have K3 := block_cell k3
          have Q3 := block_cell ((hb3.block w.heap.size (Array.getElem?_eq_some_iff.1 q2).1).trans q2)
          have hgl : ((gl : Int) == 8 + (zm.length : Int)) = true := by rw [← HG.out, HL.out]; simp
          clear P2 Q2
          go_wp2
          go_ret
          exact ⟨rfl, hw2.trans (hb3.mono hw2.size)⟩
        · have HL : Hid ((grn false true zm.length : Int) = 8 + (zm.length : Int) + 4) := by show _ = _; simp [grn] <;> omega
          go_wp2_with fail
          generalize w1.alloc (.cells #[.int .u8 tos, .int .u16 id, .bool keep, .int .u8 ttl, .int .u8 47, .int .u32 src, .int .u32 dst, .slice ao1 zo.length co1, .slice ad1 gl cd1] 26) = w2 at *
          refine (live4_any w2 (hT.below hw2 hT.pos)).mono ?_
          rintro e w3 ⟨rfl, hb3⟩
          have k3 := (hb3.block w1.heap.size (Array.getElem?_eq_some_iff.1 k2).1).trans k2
          have K3 := block_cell k3
          have Q3 := block_cell ((hb3.block w.heap.size (Array.getElem?_eq_some_iff.1 q2).1).trans q2)
          have hgl : ((gl : Int) == 8 + (zm.length : Int) + 4) = true := by rw [← HG.out, HL.out]; simp
          clear P2 Q2
          go_wp2
          go_ret
          exact ⟨rfl, hw2.trans (hb3.mono hw2.size)⟩
      · cases ha
        · have HL : Hid ((grn true false zm.length : Int) = 8 + (zm.length : Int) + 4) := by show _ = _; simp [grn] <;> omega
          go_wp2_with fail
          generalize w1.alloc (.cells #[.int .u8 tos, .int .u16 id, .bool keep, .int .u8 ttl, .int .u8 47, .int .u32 src, .int .u32 dst, .slice ao1 zo.length co1, .slice ad1 gl cd1] 26) = w2 at *
          refine (live4_any w2 (hT.below hw2 hT.pos)).mono ?_
          rintro e w3 ⟨rfl, hb3⟩
          have k3 := (hb3.block w1.heap.size (Array.getElem?_eq_some_iff.1 k2).1).trans k2
          have K3 := block_cell k3
          have Q3 := block_cell ((hb3.block w.heap.size (Array.getElem?_eq_some_iff.1 q2).1).trans q2)
          have hgl : ((gl : Int) == 8 + (zm.length : Int) + 4) = true := by rw [← HG.out, HL.out]; simp
          clear P2 Q2
          go_wp2
          go_ret
          exact ⟨rfl, hw2.trans (hb3.mono hw2.size)⟩
        · have HL : Hid ((grn true true zm.length : Int) = 8 + (zm.length : Int) + 4 + 4) := by show _ = _; simp [grn] <;> omega
          go_wp2_with fail
          generalize w1.alloc (.cells #[.int .u8 tos, .int .u16 id, .bool keep, .int .u8 ttl, .int .u8 47, .int .u32 src, .int .u32 dst, .slice ao1 zo.length co1, .slice ad1 gl cd1] 26) = w2 at *
          refine (live4_any w2 (hT.below hw2 hT.pos)).mono ?_
          rintro e w3 ⟨rfl, hb3⟩
          have k3 := (hb3.block w1.heap.size (Array.getElem?_eq_some_iff.1 k2).1).trans k2
          have K3 := block_cell k3
          have Q3 := block_cell ((hb3.block w.heap.size (Array.getElem?_eq_some_iff.1 q2).1).trans q2)
          have hgl : ((gl : Int) == 8 + (zm.length : Int) + 4 + 4) = true := by rw [← HG.out, HL.out]; simp
          clear P2 Q2
          go_wp2
          go_ret
          exact ⟨rfl, hw2.trans (hb3.mono hw2.size)⟩
end Go.Proofs.YtcdeiakeiehaaaaDoor
