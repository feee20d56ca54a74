/- How an argument that is a part of a stream reads. -/
import Derived.Test.YtmphaaiegofjpaaOp2
namespace Go.Proofs.Ytmphaaiegofjpaa
open Go.ChangeShapes Go.WideShapes Go.ChangeAt Go.RowKit Go.Joins
set_option maxRecDepth 100000
set_option linter.unusedVariables false
set_option linter.unusedSimpArgs false

theorem arr3p {α : Type} {l : Array α} (h : l.size = 3) : ∃ a b c, l = #[a, b, c] := by
  obtain ⟨l⟩ := l
  match l, h with
  | [a, b, c], _ => exact ⟨a, b, c, rfl⟩
theorem lst3p {α : Type} {l : List α} (h : l.length = 3) : ∃ a b c, l = [a, b, c] := by
  match l, h with
  | [a, b, c], _ => exact ⟨a, b, c, rfl⟩
theorem open_part11 {H : Type} {enc : TypeId × Value → H} {W : World} {r : Reach} {b0 : Nat} {v : Value} {d : DataW H} {p : List MemPlace} (hv : Value.okWide Try.prog W r b0 26 v) (h : DataW.Trod enc Try.prog W 0 (fun _ => true) true 26 v d p) :
    ∃ (s wz : Int) (tv : Value) (zs : List Int), v = .agg #[.int .u32 s, .int .i64 wz, tv] ∧ (0 ≤ s ∧ s ≤ 4294967295) ∧ (-9223372036854775808 ≤ wz ∧ wz ≤ 9223372036854775807) ∧ Mt.By zs ∧ Rd W.heap.size W tv zs := by
  obtain ⟨cs, rfl, hsz⟩ := okWide_struct Try.underlying26 hv
  obtain ⟨c0, c1, c2, rfl⟩ := arr3p (hsz.trans (by kernel_rfl))
  obtain ⟨fuel, hf⟩ := h
  obtain ⟨xs, n, _, hx, _, hlen, hfs⟩ := DataW.trod_struct Try.underlying26 hf
  obtain ⟨y0, y1, y2, rfl⟩ := lst3p hlen
  have k1 : Try.prog.cellsOf 23 = 1 := by kernel_rfl
  have k3 : Try.prog.cellsOf 3 = 1 := by kernel_rfl
  have k5 : Try.prog.cellsOf 24 = 1 := by kernel_rfl
  have f0 := hfs 0 _ rfl
  have f1 := hfs 1 _ rfl
  have f2 := hfs 2 _ rfl
  simp [Value.cells, k1, k3, k5] at f0 f1 f2
  obtain ⟨s, e0, _, w0⟩ := DataW.trod_int Try.underlying23 f0
  obtain ⟨wz, e1, _, w1⟩ := DataW.trod_int Try.underlying3 f1
  obtain ⟨zd, hBd, hId, hwd⟩ := open_bytes f2
  simp at e0 e1
  subst e0 e1
  exact ⟨s, wz, c2, zd, rfl, by simpa [Lit.wf, IntKind.min, IntKind.max, IntKind.signed, IntKind.bits] using w0, by simpa [Lit.wf, IntKind.min, IntKind.max, IntKind.signed, IntKind.bits] using w1, hBd, hId⟩
end Go.Proofs.Ytmphaaiegofjpaa
