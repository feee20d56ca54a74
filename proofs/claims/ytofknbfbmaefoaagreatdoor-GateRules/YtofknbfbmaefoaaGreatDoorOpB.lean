import Derived.Test.YtofknbfbmaefoaaGreatDoorRows
import Derived.Test.YtofknbfbmaefoaaGreatDoorX17
import Derived.ProofKit
import Derived.OpenShut
import Derived.Lib.SmallJoins
import Derived.ChangeSlices
namespace Go.Proofs.YtofknbfbmaefoaaGreatDoor
open Go.ChangeShapes Go.WideShapes Go.ChangeAt Go.RowKit Go.Joins
set_option maxRecDepth 100000
set_option linter.unusedVariables false
set_option linter.unusedSimpArgs false
theorem ls8 {α : Type} {l : List α} (h : l.length = 8) : ∃ a b c d e f g i, l = [a, b, c, d, e, f, g, i] := by
 match l, h with
 | [a, b, c, d, e, f, g, i], _ => exact ⟨a, b, c, d, e, f, g, i, rfl⟩
theorem ls3 {α : Type} {l : List α} (h : l.length = 3) : ∃ a b c, l = [a, b, c] := by
 match l, h with
 | [a, b, c], _ => exact ⟨a, b, c, rfl⟩
theorem trod_rule {H : Type} {enc : TypeId × Value → H} {W : World} {n : Nat} {cs : List Value} {y : DataW H × List MemPlace} (h : DataW.trod enc Tryz.prog W 0 (fun _ => true) true n 35 cs = some y) (hl : cs.length = 8) : ∃ r : Ru, cs = ruc r ∧ wfR r := by
 obtain ⟨c0, c1, c2, c3, c4, c5, c6, c7, rfl⟩ := ls8 hl
 obtain ⟨xs, n, hn, hx, _, hlen, hfs⟩ := DataW.trod_struct Tryz.underlying35 h
 obtain ⟨y0, y1, y2, y3, y4, y5, y6, y7, rfl⟩ := ls8 hlen
 have k0 : Tryz.prog.cellsOf 32 = 1 := by kernel_rfl
 have k1 : Tryz.prog.cellsOf 5 = 1 := by kernel_rfl
 have k3 : Tryz.prog.cellsOf 33 = 1 := by kernel_rfl
 have k4 : Tryz.prog.cellsOf 3 = 1 := by kernel_rfl
 have k5 : Tryz.prog.cellsOf 22 = 1 := by kernel_rfl
 have f0 := hfs 0 _ rfl
 have f1 := hfs 1 _ rfl
 have f2 := hfs 2 _ rfl
 have f3 := hfs 3 _ rfl
 have f4 := hfs 4 _ rfl
 have f5 := hfs 5 _ rfl
 have f6 := hfs 6 _ rfl
 have f7 := hfs 7 _ rfl
 simp [Value.cells, k0, k1, k3, k4, k5] at f0 f1 f2 f3 f4 f5 f6 f7
 obtain ⟨x0, e0, _, w0⟩ := DataW.trod_int Tryz.underlying32 f0
 obtain ⟨x1, e1, _, w1⟩ := DataW.trod_int Tryz.underlying5 f1
 obtain ⟨x2, e2, _, w2⟩ := DataW.trod_int Tryz.underlying33 f2
 obtain ⟨x3, e3, _, w3⟩ := DataW.trod_int Tryz.underlying3 f3
 obtain ⟨x4, e4, _, w4⟩ := DataW.trod_int Tryz.underlying33 f4
 obtain ⟨x5, e5, _, w5⟩ := DataW.trod_int Tryz.underlying22 f5
 obtain ⟨x6, e6, _, w6⟩ := DataW.trod_int Tryz.underlying33 f6
 obtain ⟨x7, e7, _, w7⟩ := DataW.trod_int Tryz.underlying22 f7
 simp at e0 e1 e2 e3 e4 e5 e6 e7
 subst e0 e1 e2 e3 e4 e5 e6 e7
 simp [Lit.wf, IntKind.min, IntKind.max, IntKind.signed, IntKind.bits] at w0 w1 w2 w3 w4 w5 w6 w7
 exact ⟨⟨x0, x1, x2, x3, x4, x5, x6, x7⟩, rfl, w0, w1, w2, w3, w4, w5, w6, w7⟩
structure Dd where
 r : Ru
 drop : Bool
 at0 : Int
def ddc (d : Dd) : List Value := [.int .i64 d.r.kind, .int .u8 d.r.proto, .int .u32 d.r.net, .int .i64 d.r.bits, .int .u32 d.r.tt, .int .u16 d.r.port, .int .u32 d.r.host, .int .u16 d.r.hp, .bool d.drop, .int .i64 d.at0]
def RdD (n₀ : Nat) (W : World) (sv : Value) (l : List Dd) : Prop :=
 (∃ a cap, sv = .slice a 0 cap ∧ l = [] ∧ cap ≤ 9223372036854775807) ∨
 ∃ b off cap, sv = .slice (some ⟨b, off, none⟩) l.length cap ∧ l ≠ [] ∧ l.length ≤ cap ∧ cap ≤ 9223372036854775807 ∧ b < n₀ ∧ ∀ j (hj : j < l.length), ∀ i, i < 10 → W.cell? ⟨b, off + j * 10 + i, none⟩ = (ddc l[j])[i]?
theorem RdD.below {n₀ : Nat} {A B : World} (h : Below n₀ A B) {sv : Value} {l : List Dd} : RdD n₀ A sv l → RdD n₀ B sv l
 | .inl e => .inl e
 | .inr ⟨b, off, cap, e, hne, hl, hm, hb, hc⟩ => .inr ⟨b, off, cap, e, hne, hl, hm, hb, fun j hj i hi => (h.cell (p := ⟨b, off + j * 10 + i, none⟩) hb).trans (hc j hj i hi)⟩
theorem RdD.slice {n₀ : Nat} {A : World} {sv : Value} {l : List Dd} : RdD n₀ A sv l → ∃ a cap, sv = .slice a l.length cap ∧ l.length ≤ cap ∧ cap ≤ 9223372036854775807
 | .inl ⟨a, cap, e, hz, hm⟩ => ⟨a, cap, by rw [e, hz]; rfl, by rw [hz]; exact Nat.zero_le _, hm⟩
 | .inr ⟨b, off, cap, e, _, hl, hm, _⟩ => ⟨_, cap, e, hl, hm⟩
theorem RdD.cells {n₀ : Nat} {W : World} {sv : Value} {l : List Dd} (h : RdD n₀ W sv l) (hne : 0 < l.length) : ∃ b off cap, sv = .slice (some ⟨b, off, none⟩) l.length cap ∧ l.length ≤ cap ∧ cap ≤ 9223372036854775807 ∧ b < n₀ ∧ ∀ j (hj : j < l.length), ∀ i, i < 10 → W.cell? ⟨b, off + j * 10 + i, none⟩ = (ddc l[j])[i]? := by
 rcases h with ⟨a, cap, _, rfl, _⟩ | ⟨b, off, cap, e, _, hl, hm, hb, hc⟩
 ·simp at hne
 ·exact ⟨b, off, cap, e, hl, hm, hb, hc⟩
end Go.Proofs.YtofknbfbmaefoaaGreatDoor
