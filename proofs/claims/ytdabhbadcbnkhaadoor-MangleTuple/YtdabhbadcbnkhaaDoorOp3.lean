/- How an argument that is a message, or a frame, reads. -/
import Derived.Test.YtdabhbadcbnkhaaDoorOp2
namespace Go.Proofs.YtdabhbadcbnkhaaDoor
open Go.ChangeShapes Go.WideShapes Go.ChangeAt Go.RowKit Go.Joins
set_option maxRecDepth 100000
set_option linter.unusedVariables false

theorem array4 {α : Type} {cs : Array α} (h : cs.size = 4) : ∃ c0 c1 c2 c3, cs = #[c0, c1, c2, c3] := by
  obtain ⟨l⟩ := cs
  match l, h with
  | [c0, c1, c2, c3], _ => exact ⟨c0, c1, c2, c3, rfl⟩
theorem list4 {α : Type} {l : List α} (h : l.length = 4) : ∃ c0 c1 c2 c3, l = [c0, c1, c2, c3] := by
  match l, h with
  | [c0, c1, c2, c3], _ => exact ⟨c0, c1, c2, c3, rfl⟩
theorem array6 {α : Type} {cs : Array α} (h : cs.size = 6) : ∃ c0 c1 c2 c3 c4 c5, cs = #[c0, c1, c2, c3, c4, c5] := by
  obtain ⟨l⟩ := cs
  match l, h with
  | [c0, c1, c2, c3, c4, c5], _ => exact ⟨c0, c1, c2, c3, c4, c5, rfl⟩
theorem list6 {α : Type} {l : List α} (h : l.length = 6) : ∃ c0 c1 c2 c3 c4 c5, l = [c0, c1, c2, c3, c4, c5] := by
  match l, h with
  | [c0, c1, c2, c3, c4, c5], _ => exact ⟨c0, c1, c2, c3, c4, c5, rfl⟩

/-- A message, by value. -/
theorem open_message {H : Type} {enc : TypeId × Value → H} {W : World} {r : Reach} {b0 : Nat} {v : Value} {d : DataW H} {p : List MemPlace} (hv : Value.okWide Tryd.prog W r b0 57 v) (h : DataW.Trod enc Tryd.prog W 0 (fun _ => true) true 57 v d p) :
    ∃ (ty cde rest : Int) (sm : Value) (zd : List Int), v = .agg #[.int .u8 ty, .int .u8 cde, .int .u32 rest, sm] ∧ Mt.By zd ∧ Rd W.heap.size W sm zd ∧ ((DataW.weights Tryd.prog 57 d).all (· ≤ reachBytes) = true → zd.length ≤ 140737488351232) ∧
      (0 ≤ ty ∧ ty ≤ 255) ∧ (0 ≤ cde ∧ cde ≤ 255) ∧ (0 ≤ rest ∧ rest ≤ 4294967295) := by
  obtain ⟨cs, rfl, hsz⟩ := okWide_struct Tryd.underlying57 hv
  obtain ⟨c0, c1, c2, c3, rfl⟩ := array4 (hsz.trans (by kernel_rfl))
  obtain ⟨fuel, hf⟩ := h
  obtain ⟨xs, n, _, hx, _, hlen, hfs⟩ := DataW.trod_struct Tryd.underlying57 hf
  obtain ⟨y0, y1, y2, y3, rfl⟩ := list4 hlen
  have k1 : Tryd.prog.cellsOf 5 = 1 := by kernel_rfl
  have k3 : Tryd.prog.cellsOf 23 = 1 := by kernel_rfl
  have k5 : Tryd.prog.cellsOf 24 = 1 := by kernel_rfl
  have f0 := hfs 0 _ rfl
  have f1 := hfs 1 _ rfl
  have f2 := hfs 2 _ rfl
  have f3 := hfs 3 _ rfl
  simp [Value.cells, k1, k3, k5] at f0 f1 f2 f3
  obtain ⟨ty, e0, _, w0⟩ := DataW.trod_int Tryd.underlying5 f0
  obtain ⟨cde, e1, _, w1⟩ := DataW.trod_int Tryd.underlying5 f1
  obtain ⟨rest, e2, _, w2⟩ := DataW.trod_int Tryd.underlying23 f2
  obtain ⟨zd, hBd, hId, hwd⟩ := open_bytes f3
  simp at e0 e1 e2
  subst e0 e1 e2
  simp only [Prod.mk.injEq] at hx
  refine ⟨ty, cde, rest, c3, zd, rfl, hBd, hId, fun hw => ?_, by simpa [Lit.wf, IntKind.min, IntKind.max, IntKind.signed, IntKind.bits] using w0, by simpa [Lit.wf, IntKind.min, IntKind.max, IntKind.signed, IntKind.bits] using w1, by simpa [Lit.wf, IntKind.min, IntKind.max, IntKind.signed, IntKind.bits] using w2⟩
  rw [hx.1] at hw
  simp only [DataW.weights, Tryd.underlying57, DataW.weightsEach, List.map_cons, List.map_nil, List.all_append, Bool.and_eq_true] at hw
  exact hwd (by simp_all)

/-- A frame, by value. -/
theorem open_frame {H : Type} {enc : TypeId × Value → H} {W : World} {r : Reach} {b0 : Nat} {v : Value} {d : DataW H} {p : List MemPlace} (hv : Value.okWide Tryd.prog W r b0 63 v) (h : DataW.Trod enc Tryd.prog W 0 (fun _ => true) true 63 v d p) :
    ∃ (cl sq ak : Int) (hs ha : Bool) (sm : Value) (zd : List Int), v = .agg #[.int .u16 cl, .bool hs, .bool ha, .int .u32 sq, .int .u32 ak, sm] ∧ Mt.By zd ∧ Rd W.heap.size W sm zd ∧ ((DataW.weights Tryd.prog 63 d).all (· ≤ reachBytes) = true → zd.length ≤ 140737488351232) ∧
      (0 ≤ cl ∧ cl ≤ 65535) ∧ (0 ≤ sq ∧ sq ≤ 4294967295) ∧ (0 ≤ ak ∧ ak ≤ 4294967295) := by
  obtain ⟨cs, rfl, hsz⟩ := okWide_struct Tryd.underlying63 hv
  obtain ⟨c0, c1, c2, c3, c4, c5, rfl⟩ := array6 (hsz.trans (by kernel_rfl))
  obtain ⟨fuel, hf⟩ := h
  obtain ⟨xs, n, _, hx, _, hlen, hfs⟩ := DataW.trod_struct Tryd.underlying63 hf
  obtain ⟨y0, y1, y2, y3, y4, y5, rfl⟩ := list6 hlen
  have k1 : Tryd.prog.cellsOf 22 = 1 := by kernel_rfl
  have k2 : Tryd.prog.cellsOf 4 = 1 := by kernel_rfl
  have k3 : Tryd.prog.cellsOf 23 = 1 := by kernel_rfl
  have k5 : Tryd.prog.cellsOf 24 = 1 := by kernel_rfl
  have f0 := hfs 0 _ rfl
  have f1 := hfs 1 _ rfl
  have f2 := hfs 2 _ rfl
  have f3 := hfs 3 _ rfl
  have f4 := hfs 4 _ rfl
  have f5 := hfs 5 _ rfl
  simp [Value.cells, k1, k2, k3, k5] at f0 f1 f2 f3 f4 f5
  obtain ⟨cl, e0, _, w0⟩ := DataW.trod_int Tryd.underlying22 f0
  obtain ⟨hs, e1, _⟩ := DataW.trod_bool Tryd.underlying4 f1
  obtain ⟨ha, e2, _⟩ := DataW.trod_bool Tryd.underlying4 f2
  obtain ⟨sq, e3, _, w3⟩ := DataW.trod_int Tryd.underlying23 f3
  obtain ⟨ak, e4, _, w4⟩ := DataW.trod_int Tryd.underlying23 f4
  obtain ⟨zd, hBd, hId, hwd⟩ := open_bytes f5
  simp at e0 e1 e2 e3 e4
  subst e0 e1 e2 e3 e4
  simp only [Prod.mk.injEq] at hx
  refine ⟨cl, sq, ak, hs, ha, c5, zd, rfl, hBd, hId, fun hw => ?_, by simpa [Lit.wf, IntKind.min, IntKind.max, IntKind.signed, IntKind.bits] using w0, by simpa [Lit.wf, IntKind.min, IntKind.max, IntKind.signed, IntKind.bits] using w3, by simpa [Lit.wf, IntKind.min, IntKind.max, IntKind.signed, IntKind.bits] using w4⟩
  rw [hx.1] at hw
  simp only [DataW.weights, Tryd.underlying63, DataW.weightsEach, List.map_cons, List.map_nil, List.all_append, Bool.and_eq_true] at hw
  exact hwd (by simp_all)

theorem array12 {α : Type} {cs : Array α} (h : cs.size = 12) : ∃ c0 c1 c2 c3 c4 c5 c6 c7 c8 c9 c10 c11, cs = #[c0, c1, c2, c3, c4, c5, c6, c7, c8, c9, c10, c11] := by
  obtain ⟨l⟩ := cs
  match l, h with
  | [c0, c1, c2, c3, c4, c5, c6, c7, c8, c9, c10, c11], _ => exact ⟨c0, c1, c2, c3, c4, c5, c6, c7, c8, c9, c10, c11, rfl⟩

/-- A frame's cells. -/
theorem frame_cells {H : Type} {enc : TypeId × Value → H} {W : World} {fuel : Nat} {c0 c1 c2 c3 c4 c5 : Value} {y : DataW H × List MemPlace} (hf : DataW.trod enc Tryd.prog W 0 (fun _ => true) true fuel 63 [c0, c1, c2, c3, c4, c5] = some y) :
    ∃ (cl sq ak : Int) (hs ha : Bool) (zd : List Int), (c0 = .int .u16 cl ∧ c1 = .bool hs ∧ c2 = .bool ha ∧ c3 = .int .u32 sq ∧ c4 = .int .u32 ak) ∧ Mt.By zd ∧ Rd W.heap.size W c5 zd ∧ (0 ≤ cl ∧ cl ≤ 65535) ∧ (0 ≤ sq ∧ sq ≤ 4294967295) ∧ (0 ≤ ak ∧ ak ≤ 4294967295) := by
  obtain ⟨xs, n, _, hx, _, hlen, hfs⟩ := DataW.trod_struct Tryd.underlying63 hf
  obtain ⟨y0, y1, y2, y3, y4, y5, rfl⟩ := list6 hlen
  have k1 : Tryd.prog.cellsOf 22 = 1 := by kernel_rfl
  have k2 : Tryd.prog.cellsOf 4 = 1 := by kernel_rfl
  have k3 : Tryd.prog.cellsOf 23 = 1 := by kernel_rfl
  have k5 : Tryd.prog.cellsOf 24 = 1 := by kernel_rfl
  have f0 := hfs 0 _ rfl
  have f1 := hfs 1 _ rfl
  have f2 := hfs 2 _ rfl
  have f3 := hfs 3 _ rfl
  have f4 := hfs 4 _ rfl
  have f5 := hfs 5 _ rfl
  simp [k1, k2, k3, k5] at f0 f1 f2 f3 f4 f5
  obtain ⟨cl, e0, _, w0⟩ := DataW.trod_int Tryd.underlying22 f0
  obtain ⟨hs, e1, _⟩ := DataW.trod_bool Tryd.underlying4 f1
  obtain ⟨ha, e2, _⟩ := DataW.trod_bool Tryd.underlying4 f2
  obtain ⟨sq, e3, _, w3⟩ := DataW.trod_int Tryd.underlying23 f3
  obtain ⟨ak, e4, _, w4⟩ := DataW.trod_int Tryd.underlying23 f4
  obtain ⟨zd, hBd, hId, hwd⟩ := open_bytes f5
  simp at e0 e1 e2 e3 e4
  exact ⟨cl, sq, ak, hs, ha, zd, ⟨e0, e1, e2, e3, e4⟩, hBd, hId, by simpa [Lit.wf, IntKind.min, IntKind.max, IntKind.signed, IntKind.bits] using w0, by simpa [Lit.wf, IntKind.min, IntKind.max, IntKind.signed, IntKind.bits] using w3, by simpa [Lit.wf, IntKind.min, IntKind.max, IntKind.signed, IntKind.bits] using w4⟩

end Go.Proofs.YtdabhbadcbnkhaaDoor