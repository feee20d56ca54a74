/- How an argument that is a deed of a table reads. -/
import Derived.Test.YtojoaidnkljcpacRows
import Derived.ProofKit
import Derived.OpenShut
import Derived.Lib.SmallJoins
namespace Go.Proofs.Ytojoaidnkljcpac
open Go.ChangeShapes Go.WideShapes Go.ChangeAt Go.RowKit Go.Joins
set_option maxRecDepth 100000
set_option linter.unusedVariables false
set_option linter.unusedSimpArgs false

theorem arr8 {α : Type} {l : Array α} (h : l.size = 8) : ∃ a b c d e f g i, l = #[a, b, c, d, e, f, g, i] := by
  obtain ⟨l⟩ := l
  match l, h with
  | [a, b, c, d, e, f, g, i], _ => exact ⟨a, b, c, d, e, f, g, i, rfl⟩
theorem lst4 {α : Type} {l : List α} (h : l.length = 4) : ∃ a b c d, l = [a, b, c, d] := by
  match l, h with
  | [a, b, c, d], _ => exact ⟨a, b, c, d, rfl⟩
theorem lst5' {α : Type} {l : List α} (h : l.length = 5) : ∃ a b c d e, l = [a, b, c, d, e] := by
  match l, h with
  | [a, b, c, d, e], _ => exact ⟨a, b, c, d, e, rfl⟩

theorem open_deed {H : Type} {enc : TypeId × Value → H} {W : World} {r : Reach} {b0 : Nat} {v : Value} {d : DataW H} {p : List MemPlace} (hv : Value.okWide Try.prog W r b0 27 v) (h : DataW.Trod enc Try.prog W 0 (fun _ => true) true 27 v d p) :
    ∃ k x y z a b i t : Int, v = .agg #[.int .i64 k, .int .u8 x, .int .u32 y, .int .u32 z, .int .u16 a, .int .u16 b, .int .i64 i, .int .i64 t] ∧ (0 ≤ x ∧ x ≤ 255) ∧ (0 ≤ y ∧ y ≤ 4294967295) ∧ (0 ≤ z ∧ z ≤ 4294967295) ∧ (0 ≤ a ∧ a ≤ 65535) ∧ (0 ≤ b ∧ b ≤ 65535) ∧ (-9223372036854775808 ≤ k ∧ k ≤ 9223372036854775807) ∧ (-9223372036854775808 ≤ i ∧ i ≤ 9223372036854775807) ∧ (-9223372036854775808 ≤ t ∧ t ≤ 9223372036854775807) := by
  obtain ⟨cs, rfl, hsz⟩ := okWide_struct Try.underlying27 hv
  obtain ⟨c0, c1, c2, c3, c4, c5, c6, c7, rfl⟩ := arr8 (hsz.trans (by kernel_rfl))
  obtain ⟨fuel, hf⟩ := h
  obtain ⟨xs, n, hn, hx, _, hlen, hfs⟩ := DataW.trod_struct Try.underlying27 hf
  obtain ⟨y0, y1, y2, y3, rfl⟩ := lst4 hlen
  have k0 : Try.prog.cellsOf 3 = 1 := by kernel_rfl
  have kt : Try.prog.cellsOf 25 = 5 := by kernel_rfl
  have k1 : Try.prog.cellsOf 5 = 1 := by kernel_rfl
  have k3 : Try.prog.cellsOf 22 = 1 := by kernel_rfl
  have k5 : Try.prog.cellsOf 23 = 1 := by kernel_rfl
  have f0 := hfs 0 _ rfl
  have f1 := hfs 1 _ rfl
  have f2 := hfs 2 _ rfl
  have f3 := hfs 3 _ rfl
  simp [Value.cells, k0, kt] at f0 f1 f2 f3
  obtain ⟨k, e0, _, w0⟩ := DataW.trod_int Try.underlying3 f0
  obtain ⟨i, e2, _, w2⟩ := DataW.trod_int Try.underlying3 f2
  obtain ⟨t, e3, _, w3⟩ := DataW.trod_int Try.underlying3 f3
  obtain ⟨xs1, n1, hn1, hx1, _, hlen1, hfs1⟩ := DataW.trod_struct Try.underlying25 f1
  obtain ⟨z0, z1, z2, z3, z4, rfl⟩ := lst5' hlen1
  have g0 := hfs1 0 _ rfl
  have g1 := hfs1 1 _ rfl
  have g2 := hfs1 2 _ rfl
  have g3 := hfs1 3 _ rfl
  have g4 := hfs1 4 _ rfl
  simp [Value.cells, k1, k3, k5] at g0 g1 g2 g3 g4
  obtain ⟨x, e4, _, w4⟩ := DataW.trod_int Try.underlying5 g0
  obtain ⟨y, e5, _, w5⟩ := DataW.trod_int Try.underlying22 g1
  obtain ⟨z, e6, _, w6⟩ := DataW.trod_int Try.underlying22 g2
  obtain ⟨a, e7, _, w7⟩ := DataW.trod_int Try.underlying23 g3
  obtain ⟨b, e8, _, w8⟩ := DataW.trod_int Try.underlying23 g4
  simp at e0 e2 e3 e4 e5 e6 e7 e8
  subst e0 e2 e3 e4 e5 e6 e7 e8
  simp [Lit.wf, IntKind.min, IntKind.max, IntKind.signed, IntKind.bits] at w0 w2 w3 w4 w5 w6 w7 w8
  exact ⟨k, x, y, z, a, b, i, t, rfl, w4, w5, w6, w7, w8, w0, w2, w3⟩
end Go.Proofs.Ytojoaidnkljcpac
