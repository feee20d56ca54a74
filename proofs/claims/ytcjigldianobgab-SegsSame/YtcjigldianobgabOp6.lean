/- How an argument that is two datagrams reads. -/
import Derived.Test.YtcjigldianobgabOp5
namespace Go.Proofs.Ytcjigldianobgab
open Go.ChangeShapes Go.WideShapes Go.ChangeAt Go.RowKit Go.Joins
set_option maxRecDepth 100000
set_option linter.unusedVariables false

theorem array8 {α : Type} {cs : Array α} (h : cs.size = 8) : ∃ c0 c1 c2 c3 c4 c5 c6 c7, cs = #[c0, c1, c2, c3, c4, c5, c6, c7] := by
  obtain ⟨l⟩ := cs
  match l, h with
  | [c0, c1, c2, c3, c4, c5, c6, c7], _ => exact ⟨c0, c1, c2, c3, c4, c5, c6, c7, rfl⟩
theorem datagram_cells {H : Type} {enc : TypeId × Value → H} {W : World} {fuel : Nat} {c0 c1 c2 c3 : Value} {y : DataW H × List MemPlace} (hf : DataW.trod enc Try.prog W 0 (fun _ => true) true fuel 29 [c0, c1, c2, c3] = some y) :
    ∃ (sp dp : Int) (bare : Bool) (zd : List Int), (c0 = .int .u16 sp ∧ c1 = .int .u16 dp ∧ c2 = .bool bare) ∧ Mt.By zd ∧ Rd W.heap.size W c3 zd := by
  obtain ⟨xs, n, _, hx, _, hlen, hfs⟩ := DataW.trod_struct Try.underlying29 hf
  obtain ⟨y0, y1, y2, y3, rfl⟩ := list4d hlen
  have k1 : Try.prog.cellsOf 22 = 1 := by kernel_rfl
  have k3 : Try.prog.cellsOf 4 = 1 := by kernel_rfl
  have k5 : Try.prog.cellsOf 25 = 1 := by kernel_rfl
  have f0 := hfs 0 _ rfl
  have f1 := hfs 1 _ rfl
  have f2 := hfs 2 _ rfl
  have f3 := hfs 3 _ rfl
  simp [k1, k3, k5] at f0 f1 f2 f3
  obtain ⟨sp, e0, _, w0⟩ := DataW.trod_int Try.underlying22 f0
  obtain ⟨dp, e1, _, w1⟩ := DataW.trod_int Try.underlying22 f1
  obtain ⟨bare, e2, _⟩ := DataW.trod_bool Try.underlying4 f2
  obtain ⟨zd, hBd, hId, hwd⟩ := open_bytes f3
  simp at e0 e1 e2
  exact ⟨sp, dp, bare, zd, ⟨e0, e1, e2⟩, hBd, hId⟩
/-- Two datagrams, by value. -/
theorem open_datagram2 {H : Type} {enc : TypeId × Value → H} {W : World} {r : Reach} {b0 : Nat} {v : Value} {d : DataW H} {p : List MemPlace} (hv : Value.okWide Try.prog W r b0 30 v) (h : DataW.Trod enc Try.prog W 0 (fun _ => true) true 30 v d p) :
    ∃ (ep gp : Int) (br : Bool) (sn : Value) (zn : List Int) (ep' gp' : Int) (br' : Bool) (sn' : Value) (zn' : List Int),
      v = .agg #[.int .u16 ep, .int .u16 gp, .bool br, sn, .int .u16 ep', .int .u16 gp', .bool br', sn'] ∧ Mt.By zn ∧ Rd W.heap.size W sn zn ∧ Mt.By zn' ∧ Rd W.heap.size W sn' zn' := by
  have ht := Try.underlying30
  have hce : Try.prog.cellsOf 29 = 4 := by kernel_rfl
  obtain ⟨cs, rfl, hsz, _⟩ : ∃ cs, v = .agg cs ∧ cs.size = Try.prog.cellsOf 30 ∧ Row.okWide Try.prog W r b0 30 cs := by
    simpa [Value.okWide, ht] using hv
  obtain ⟨c0, c1, c2, c3, c4, c5, c6, c7, rfl⟩ := array8 (hsz.trans (by kernel_rfl))
  obtain ⟨fuel, hf⟩ := h
  obtain ⟨xs, m, _, _, _, hl, hel⟩ := DataW.trod_array ht hf
  match xs, hl with
  | [y0, y1], _ =>
    have e0 := hel 0 (by omega)
    have e1 := hel 1 (by omega)
    rw [hce] at e0 e1
    simp [Value.cells] at e0 e1
    obtain ⟨ep, gp, br, zn, ⟨rfl, rfl, rfl⟩, hB, hI⟩ := datagram_cells e0
    obtain ⟨ep', gp', br', zn', ⟨rfl, rfl, rfl⟩, hB', hI'⟩ := datagram_cells e1
    exact ⟨ep, gp, br, c3, zn, ep', gp', br', c7, zn', rfl, hB, hI, hB', hI'⟩
end Go.Proofs.Ytcjigldianobgab
