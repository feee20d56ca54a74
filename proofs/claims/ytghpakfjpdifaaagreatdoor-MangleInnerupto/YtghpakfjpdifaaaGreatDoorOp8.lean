/- How an argument that is a tuple reads. -/
import Derived.Test.YtghpakfjpdifaaaGreatDoorRows
import Derived.ProofKit
import Derived.OpenShut
import Derived.Lib.SmallJoins
namespace Go.Proofs.YtghpakfjpdifaaaGreatDoor
open Go.ChangeShapes Go.WideShapes Go.ChangeAt Go.RowKit Go.Joins
set_option maxRecDepth 100000
set_option linter.unusedVariables false
set_option linter.unusedSimpArgs false

theorem arr5 {α : Type} {l : Array α} (h : l.size = 5) : ∃ a b c d e, l = #[a, b, c, d, e] := by
 obtain ⟨l⟩ := l
 match l, h with
 | [a, b, c, d, e], _ => exact ⟨a, b, c, d, e, rfl⟩
theorem lst5 {α : Type} {l : List α} (h : l.length = 5) : ∃ a b c d e, l = [a, b, c, d, e] := by
 match l, h with
 | [a, b, c, d, e], _ => exact ⟨a, b, c, d, e, rfl⟩

theorem open_tuple {H : Type} {enc : TypeId × Value → H} {W : World} {r : Reach} {b0 : Nat} {v : Value} {d : DataW H} {p : List MemPlace} (hv : Value.okWide Tryz.prog W r b0 29 v) (h : DataW.Trod enc Tryz.prog W 0 (fun _ => true) true 29 v d p) :
  ∃ x y z a b : Int, v = .agg #[.int .u8 x, .int .u32 y, .int .u32 z, .int .u16 a, .int .u16 b] ∧ (0 ≤ x ∧ x ≤ 255) ∧ (0 ≤ y ∧ y ≤ 4294967295) ∧ (0 ≤ z ∧ z ≤ 4294967295) ∧ (0 ≤ a ∧ a ≤ 65535) ∧ (0 ≤ b ∧ b ≤ 65535) := by
 obtain ⟨cs, rfl, hsz⟩ := okWide_struct Tryz.underlying29 hv
 obtain ⟨c0, c1, c2, c3, c4, rfl⟩ := arr5 (hsz.trans (by kernel_rfl))
 obtain ⟨fuel, hf⟩ := h
 obtain ⟨xs, n, _, hx, _, hlen, hfs⟩ := DataW.trod_struct Tryz.underlying29 hf
 obtain ⟨y0, y1, y2, y3, y4, rfl⟩ := lst5 hlen
 have k1 : Tryz.prog.cellsOf 5 = 1 := by kernel_rfl
 have k3 : Tryz.prog.cellsOf 23 = 1 := by kernel_rfl
 have k5 : Tryz.prog.cellsOf 22 = 1 := by kernel_rfl
 have f0 := hfs 0 _ rfl
 have f1 := hfs 1 _ rfl
 have f2 := hfs 2 _ rfl
 have f3 := hfs 3 _ rfl
 have f4 := hfs 4 _ rfl
 simp [Value.cells, k1, k3, k5] at f0 f1 f2 f3 f4
 obtain ⟨x, e0, _, w0⟩ := DataW.trod_int Tryz.underlying5 f0
 obtain ⟨y, e1, _, w1⟩ := DataW.trod_int Tryz.underlying23 f1
 obtain ⟨z, e2, _, w2⟩ := DataW.trod_int Tryz.underlying23 f2
 obtain ⟨a, e3, _, w3⟩ := DataW.trod_int Tryz.underlying22 f3
 obtain ⟨b, e4, _, w4⟩ := DataW.trod_int Tryz.underlying22 f4
 simp at e0 e1 e2 e3 e4
 subst e0 e1 e2 e3 e4
 simp [Lit.wf, IntKind.min, IntKind.max, IntKind.signed, IntKind.bits] at w0 w1 w2 w3 w4
 exact ⟨x, y, z, a, b, rfl, w0, w1, w2, w3, w4⟩
end Go.Proofs.YtghpakfjpdifaaaGreatDoor
