/- The walk of the law CtrlIcmp. -/
import Derived.Test.YtejkonnbpjocoabDoorCN
import Derived.Test.YtejkonnbpjocoabDoorCE
namespace Go.Proofs.YtejkonnbpjocoabDoor
open Go.RowKit Go.Shelf
set_option maxRecDepth 100000
set_option linter.unusedVariables false
set_option linter.unusedSimpArgs false

theorem rparseIcmp_u (tos id ttl proto src dst : Int) (keep : Bool) (so sd : Value) (zs : List Int) (w : World) (hB : Mt.By zs) (hI : Rd w.heap.size w sd zs) (hl : zs.length ≤ 1099511627776) :
    Calls Tryd.prog 6 #[.agg #[.int .u8 tos, .int .u16 id, .bool keep, .int .u8 ttl, .int .u8 proto, .int .u32 src, .int .u32 dst, so, sd]] w fun e w' => Below w.heap.size w w' ∧ ∃ am lm cm, e = .returned (.tuple #[.agg #[.int .u8 (pty proto zs), .int .u8 (pcd proto zs), .int .u32 (prs proto zs), .slice am lm cm], .int .i64 (pie proto zs)]) ∧ lm = (pdt proto zs).length ∧ Ow w.heap.size w' (.slice am lm cm) (pdt proto zs) := by
  refine (rparseIcmp_any tos id ttl proto src dst keep so sd zs w hB hI hl).mono ?_
  rintro e w' ⟨hb, ⟨h, rfl⟩ | ⟨h, ad, cd, rfl, hO⟩⟩
  · have e1 : pty proto zs = 0 := by unfold pty; rw [if_neg h]
    have e2 : pcd proto zs = 0 := by unfold pcd; rw [if_neg h]
    have e3 : prs proto zs = 0 := by unfold prs; rw [if_neg h]
    have e4 : pdt proto zs = [] := by unfold pdt; rw [if_neg h]
    exact ⟨hb, none, 0, 0, by rw [e1, e2, e3], by rw [e4]; rfl, .inl ⟨rfl, e4⟩⟩
  · have e1 : pty proto zs = zs[0]?.getD 0 := by unfold pty; rw [if_pos h]
    have e2 : pcd proto zs = zs[1]?.getD 0 := by unfold pcd; rw [if_pos h]
    have e3 : prs proto zs = wat4 zs 4 := by unfold prs; rw [if_pos h]
    have e4 : pdt proto zs = zs.drop 8 := by unfold pdt; rw [if_pos h]
    exact ⟨hb, ad, zs.length - 8, cd, by rw [e1, e2, e3, h], by rw [e4, List.length_drop], by rw [e4]; exact hO⟩

set_option maxHeartbeats 8000000 in
theorem walk_CtrlIcmp (w : World) (hT : Tb w) (tos id ttl proto src dst : Int) (keep : Bool) (so sd : Value) (zo zd : List Int) (hBo : Mt.By zo) (hBd : Mt.By zd) (hIo : Rd w.heap.size w so zo) (hId : Rd w.heap.size w sd zd) (hlo : zo.length ≤ 140737488355328) (hld : zd.length ≤ 140737488355328)
    (ht : 0 ≤ tos ∧ tos ≤ 255) (hid : 0 ≤ id ∧ id ≤ 65535) (htt : 0 ≤ ttl ∧ ttl ≤ 255) (hpr : 0 ≤ proto ∧ proto ≤ 255) (hsr : 0 ≤ src ∧ src ≤ 4294967295) (hds : 0 ≤ dst ∧ dst ≤ 4294967295) (hsm : zd.length ≤ 1048576) :
    Calls Tryd.prog 3 #[.agg #[.int .u8 tos, .int .u16 id, .bool keep, .int .u8 ttl, .int .u8 proto, .int .u32 src, .int .u32 dst, so, sd]] w fun e w' => e = .returned (.bool true) ∧ Below w.heap.size w w' := by
  obtain ⟨ao, co, rfl, _, _⟩ := hIo.slice
  obtain ⟨ad, cd, rfl, _, _⟩ := hId.slice
  have hb0 : Below w.heap.size w (w.alloc (.cells #[.int .u8 tos, .int .u16 id, .bool keep, .int .u8 ttl, .int .u8 proto, .int .u32 src, .int .u32 dst, .slice ao zo.length co, .slice ad zd.length cd] 26)) := (Below.refl _ _).alloc (Nat.le_refl _) _
  have p0 := heap_alloc_new w (.cells #[.int .u8 tos, .int .u16 id, .bool keep, .int .u8 ttl, .int .u8 proto, .int .u32 src, .int .u32 dst, .slice ao zo.length co, .slice ad zd.length cd] 26)
  have P0 := hide p0
  clear p0
  go_enter Tryd.func3, Tryd.ntmps3
  go_wp2_with fail
  generalize w.alloc (.cells #[.int .u8 tos, .int .u16 id, .bool keep, .int .u8 ttl, .int .u8 proto, .int .u32 src, .int .u32 dst, .slice ao zo.length co, .slice ad zd.length cd] 26) = w0 at *
  have hBp := By_pdt proto zd hBd
  refine (parseIcmp_u tos id ttl proto src dst keep _ _ zd w0 hBd ((hId.below hb0).mono hb0.size) hld).mono ?_
  rintro e w1 ⟨hb1, aR, lR, cR, rfl, hlR, oR⟩
  have HLR := hide hlR
  clear hlR
  have HR2 : ∀ v : World, Rd v.heap.size v (.slice ad zd.length cd) zd → _ := fun v h => rparseIcmp_u tos id ttl proto src dst keep (.slice ao zo.length co) _ zd v hBd h (by omega)
  generalize pty proto zd = ty at *
  generalize pcd proto zd = cde at *
  generalize prs proto zd = rst at *
  generalize pdt proto zd = zp at *
  generalize pie proto zd = ec at *
  have a2 := heap_alloc_new w1 (.cells #[.int .u8 ty, .int .u8 cde, .int .u32 rst, .slice aR lR cR] 28)
  have l2 : Later w1 (w1.alloc (.cells #[.int .u8 ty, .int .u8 cde, .int .u32 rst, .slice aR lR cR] 28)) := (Below.refl _ _).alloc (Nat.le_refl _) _
  have l02 := Later.trans hb1 l2
  have p2 := (l02.block w.heap.size (Array.getElem?_eq_some_iff.1 P0.out).1).trans P0.out
  have hw2 := hb0.trans (l02.mono hb0.size)
  have PP2 := block_cell p2
  go_wp2_with fail
  generalize w1.alloc (.cells #[.int .u8 ty, .int .u8 cde, .int .u32 rst, .slice aR lR cR] 28) = w2 at *
  refine (HR2 w2 ((hId.below hw2).mono hw2.size)).mono ?_
  rintro e w3 ⟨hb3, aS, lS, cS, rfl, hlS, oS⟩
  have HLS := hide hlS
  clear hlS HR2
  have a4 := heap_alloc_new w3 (.cells #[.int .u8 ty, .int .u8 cde, .int .u32 rst, .slice aS lS cS] 28)
  have l4 : Later w3 (w3.alloc (.cells #[.int .u8 ty, .int .u8 cde, .int .u32 rst, .slice aS lS cS] 28)) := (Below.refl _ _).alloc (Nat.le_refl _) _
  have l24 := Later.trans hb3 l4
  have r4 := (l24.block w1.heap.size (Array.getElem?_eq_some_iff.1 a2).1).trans a2
  have hw4 := hw2.trans (l24.mono hw2.size)
  clear PP2
  go_wp2_with fail
  generalize w3.alloc (.cells #[.int .u8 ty, .int .u8 cde, .int .u32 rst, .slice aS lS cS] 28) = w4 at *
  refine (live4_any w4 (hT.below hw4 hT.pos)).mono ?_
  rintro e w5 ⟨rfl, hb5⟩
  have l45 : Later w4 w5 := hb5
  have r5 := (l45.block w1.heap.size (Array.getElem?_eq_some_iff.1 r4).1).trans r4
  have s5 := (l45.block w3.heap.size (Array.getElem?_eq_some_iff.1 a4).1).trans a4
  have R5 := block_cell r5
  have S5 := block_cell s5
  have hw5 := hw4.trans (l45.mono hw4.size)
  go_wp2_with fail
  refine (rsameIcmp_any ty cde rst ty cde rst _ _ zp zp w5 hBp hBp (oR.rd.later (Later.trans l2 (Later.trans l24 l45))) (oS.rd.later (Later.trans l4 l45))).mono ?_
  rw [smI_self]
  rintro e w6 ⟨rfl, hb6⟩
  go_wp2
  go_ret
  exact ⟨rfl, hw5.trans (hb6.mono hw5.size)⟩
end Go.Proofs.YtejkonnbpjocoabDoor
