/- The walk of the law CtrlGre. -/
import Derived.Test.YtejkonnbpjocoabDoorCP
import Derived.Test.YtejkonnbpjocoabDoorCE
namespace Go.Proofs.YtejkonnbpjocoabDoor
open Go.RowKit Go.Shelf
set_option maxRecDepth 100000
set_option linter.unusedVariables false
set_option linter.unusedSimpArgs false

theorem rparseGre_u (tos id ttl proto src dst : Int) (keep : Bool) (so sd : Value) (zs : List Int) (w : World) (hB : Mt.By zs) (hI : Rd w.heap.size w sd zs) (hl : zs.length ≤ 140737488355328) :
    Calls Tryd.prog 10 #[.agg #[.int .u8 tos, .int .u16 id, .bool keep, .int .u8 ttl, .int .u8 proto, .int .u32 src, .int .u32 dst, so, sd]] w fun e w' => Below w.heap.size w w' ∧ ∃ am lm cm, e = .returned (.tuple #[.agg #[.int .u16 (gcl proto zs), .bool (gh1 proto zs), .bool (gh2 proto zs), .int .u32 (gq1 proto zs), .int .u32 (gq2 proto zs), .slice am lm cm], .int .i64 (pge proto zs)]) ∧ lm = (gdt proto zs).length ∧ Ow w.heap.size w' (.slice am lm cm) (gdt proto zs) := by
  refine (rparseGre_any tos id ttl proto src dst keep so sd zs w hB hI hl).mono ?_
  rintro e w' ⟨hb, ⟨h, rfl⟩ | ⟨h, ad, cd, rfl, hO⟩⟩
  · have e1 : gcl proto zs = 0 := by unfold gcl; rw [if_neg h]
    have e2 : gh1 proto zs = false := by unfold gh1; rw [if_neg h]
    have e3 : gh2 proto zs = false := by unfold gh2; rw [if_neg h]
    have e5 : gq1 proto zs = 0 := by unfold gq1; rw [if_neg h]
    have e6 : gq2 proto zs = 0 := by unfold gq2; rw [if_neg h]
    have e4 : gdt proto zs = [] := by unfold gdt; rw [if_neg h]
    exact ⟨hb, none, 0, 0, by rw [e1, e2, e3, e5, e6], by rw [e4]; rfl, .inl ⟨rfl, e4⟩⟩
  · have e1 : gcl proto zs = getAt2 zs 6 := by unfold gcl; rw [if_pos h]
    have e2 : gh1 proto zs = ghs (bgz zs) := by unfold gh1; rw [if_pos h]
    have e3 : gh2 proto zs = gha (bgz zs) := by unfold gh2; rw [if_pos h]
    have e5 : gq1 proto zs = gsq (bgz zs) zs := by unfold gq1; rw [if_pos h]
    have e6 : gq2 proto zs = gak (bgz zs) zs := by unfold gq2; rw [if_pos h]
    have e4 : gdt proto zs = zs.drop (ghd (bgz zs)) := by unfold gdt; rw [if_pos h]
    exact ⟨hb, ad, zs.length - ghd (bgz zs), cd, by rw [e1, e2, e3, e5, e6, h], by rw [e4, List.length_drop], by rw [e4]; exact hO⟩

set_option maxHeartbeats 8000000 in
theorem walk_CtrlGre (w : World) (hT : Tb w) (tos id ttl proto src dst : Int) (keep : Bool) (so sd : Value) (zo zd : List Int) (hBo : Mt.By zo) (hBd : Mt.By zd) (hIo : Rd w.heap.size w so zo) (hId : Rd w.heap.size w sd zd) (hlo : zo.length ≤ 140737488355328) (hld : zd.length ≤ 140737488355328)
    (ht : 0 ≤ tos ∧ tos ≤ 255) (hid : 0 ≤ id ∧ id ≤ 65535) (htt : 0 ≤ ttl ∧ ttl ≤ 255) (hpr : 0 ≤ proto ∧ proto ≤ 255) (hsr : 0 ≤ src ∧ src ≤ 4294967295) (hds : 0 ≤ dst ∧ dst ≤ 4294967295) :
    Calls Tryd.prog 4 #[.agg #[.int .u8 tos, .int .u16 id, .bool keep, .int .u8 ttl, .int .u8 proto, .int .u32 src, .int .u32 dst, so, sd]] w fun e w' => e = .returned (.bool true) ∧ Below w.heap.size w w' := by
  obtain ⟨ao, co, rfl, _, _⟩ := hIo.slice
  obtain ⟨ad, cd, rfl, _, _⟩ := hId.slice
  have hb0 : Below w.heap.size w (w.alloc (.cells #[.int .u8 tos, .int .u16 id, .bool keep, .int .u8 ttl, .int .u8 proto, .int .u32 src, .int .u32 dst, .slice ao zo.length co, .slice ad zd.length cd] 26)) := (Below.refl _ _).alloc (Nat.le_refl _) _
  have p0 := heap_alloc_new w (.cells #[.int .u8 tos, .int .u16 id, .bool keep, .int .u8 ttl, .int .u8 proto, .int .u32 src, .int .u32 dst, .slice ao zo.length co, .slice ad zd.length cd] 26)
  have P0 := hide p0
  clear p0
  go_enter Tryd.func4, Tryd.ntmps4
  go_wp2_with fail
  generalize w.alloc (.cells #[.int .u8 tos, .int .u16 id, .bool keep, .int .u8 ttl, .int .u8 proto, .int .u32 src, .int .u32 dst, .slice ao zo.length co, .slice ad zd.length cd] 26) = w0 at *
  have hBp : Mt.By (gdt proto zd) := by unfold gdt; split; exact hBd.drop _; exact Mt.By.nil
  refine (parseGre_u tos id ttl proto src dst keep _ _ zd w0 (hT.below hb0 hT.pos) hBd ((hId.below hb0).mono hb0.size) hld).mono ?_
  rintro e w1 ⟨hb1, aR, lR, cR, rfl, hlR, oR⟩
  have HLR := hide hlR
  clear hlR
  have HR2 : ∀ v : World, Rd v.heap.size v (.slice ad zd.length cd) zd → _ := fun v h => rparseGre_u tos id ttl proto src dst keep (.slice ao zo.length co) _ zd v hBd h hld
  generalize gcl proto zd = cl at *
  generalize gh1 proto zd = h1 at *
  generalize gh2 proto zd = h2 at *
  generalize gq1 proto zd = q1 at *
  generalize gq2 proto zd = q2 at *
  generalize gdt proto zd = zp at *
  generalize pge proto zd = ec at *
  have a2 := heap_alloc_new w1 (.cells #[.int .u16 cl, .bool h1, .bool h2, .int .u32 q1, .int .u32 q2, .slice aR lR cR] 36)
  have l2 : Later w1 (w1.alloc (.cells #[.int .u16 cl, .bool h1, .bool h2, .int .u32 q1, .int .u32 q2, .slice aR lR cR] 36)) := (Below.refl _ _).alloc (Nat.le_refl _) _
  have l02 := Later.trans hb1 l2
  have p2 := (l02.block w.heap.size (Array.getElem?_eq_some_iff.1 P0.out).1).trans P0.out
  have hw2 := hb0.trans (l02.mono hb0.size)
  have PP2 := block_cell p2
  go_wp2_with fail
  generalize w1.alloc (.cells #[.int .u16 cl, .bool h1, .bool h2, .int .u32 q1, .int .u32 q2, .slice aR lR cR] 36) = w2 at *
  refine (HR2 w2 ((hId.below hw2).mono hw2.size)).mono ?_
  rintro e w3 ⟨hb3, aS, lS, cS, rfl, hlS, oS⟩
  have HLS := hide hlS
  clear hlS HR2
  have a4 := heap_alloc_new w3 (.cells #[.int .u16 cl, .bool h1, .bool h2, .int .u32 q1, .int .u32 q2, .slice aS lS cS] 36)
  have l4 : Later w3 (w3.alloc (.cells #[.int .u16 cl, .bool h1, .bool h2, .int .u32 q1, .int .u32 q2, .slice aS lS cS] 36)) := (Below.refl _ _).alloc (Nat.le_refl _) _
  have l24 := Later.trans hb3 l4
  have r4 := (l24.block w1.heap.size (Array.getElem?_eq_some_iff.1 a2).1).trans a2
  have hw4 := hw2.trans (l24.mono hw2.size)
  clear PP2
  go_wp2_with fail
  generalize w3.alloc (.cells #[.int .u16 cl, .bool h1, .bool h2, .int .u32 q1, .int .u32 q2, .slice aS lS cS] 36) = w4 at *
  refine (live4_any w4 (hT.below hw4 hT.pos)).mono ?_
  rintro e w5 ⟨rfl, hb5⟩
  have l45 : Later w4 w5 := hb5
  have r5 := (l45.block w1.heap.size (Array.getElem?_eq_some_iff.1 r4).1).trans r4
  have s5 := (l45.block w3.heap.size (Array.getElem?_eq_some_iff.1 a4).1).trans a4
  have R5 := block_cell r5
  have S5 := block_cell s5
  have hw5 := hw4.trans (l45.mono hw4.size)
  go_wp2_with fail
  refine (rsameGre_any cl q1 q2 cl q1 q2 h1 h2 h1 h2 _ _ zp zp w5 hBp hBp (oR.rd.later (Later.trans l2 (Later.trans l24 l45))) (oS.rd.later (Later.trans l4 l45))).mono ?_
  rw [smG_self]
  rintro e w6 ⟨rfl, hb6⟩
  go_wp2
  go_ret
  exact ⟨rfl, hw5.trans (hb6.mono hw5.size)⟩
end Go.Proofs.YtejkonnbpjocoabDoor
