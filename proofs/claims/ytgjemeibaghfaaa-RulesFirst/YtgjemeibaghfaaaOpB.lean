/- How arguments of the laws of rules read: a rule, a deed, what is asked, deeds. -/
import Derived.Test.YtgjemeibaghfaaaRows
import Derived.Test.YtgjemeibaghfaaaYA
import Derived.ProofKit
import Derived.OpenShut
import Derived.Lib.SmallJoins
import Derived.ChangeSlices
namespace Go.Proofs.Ytgjemeibaghfaaa
open Go.ChangeShapes Go.WideShapes Go.ChangeAt Go.RowKit Go.Joins
set_option maxRecDepth 100000
set_option linter.unusedVariables false
set_option linter.unusedSimpArgs false

theorem ls8 {α : Type} {l : List α} (h : l.length = 8) : ∃ a b c d e f g i, l = [a, b, c, d, e, f, g, i] := by
  match l, h with
  | [a, b, c, d, e, f, g, i], _ => exact ⟨a, b, c, d, e, f, g, i, rfl⟩
theorem ls10 {α : Type} {l : List α} (h : l.length = 10) : ∃ a b c d e f g i j k, l = [a, b, c, d, e, f, g, i, j, k] := by
  match l, h with
  | [a, b, c, d, e, f, g, i, j, k], _ => exact ⟨a, b, c, d, e, f, g, i, j, k, rfl⟩
theorem ls3 {α : Type} {l : List α} (h : l.length = 3) : ∃ a b c, l = [a, b, c] := by
  match l, h with
  | [a, b, c], _ => exact ⟨a, b, c, rfl⟩
theorem ls4 {α : Type} {l : List α} (h : l.length = 4) : ∃ a b c d, l = [a, b, c, d] := by
  match l, h with
  | [a, b, c, d], _ => exact ⟨a, b, c, d, rfl⟩

theorem addr_add (b off k : Nat) : (⟨b, off, none⟩ : Addr).add k = ⟨b, off + k, none⟩ := by unfold Addr.add; split <;> simp_all

theorem trod_rule {H : Type} {enc : TypeId × Value → H} {W : World} {n : Nat} {cs : List Value} {y : DataW H × List MemPlace} (h : DataW.trod enc Try.prog W 0 (fun _ => true) true n 36 cs = some y) (hl : cs.length = 8) : ∃ r : Ru, cs = ruc r ∧ wfR r := by
  obtain ⟨c0, c1, c2, c3, c4, c5, c6, c7, rfl⟩ := ls8 hl
  obtain ⟨xs, n, hn, hx, _, hlen, hfs⟩ := DataW.trod_struct Try.underlying36 h
  obtain ⟨y0, y1, y2, y3, y4, y5, y6, y7, rfl⟩ := ls8 hlen
  have k0 : Try.prog.cellsOf 34 = 1 := by kernel_rfl
  have k1 : Try.prog.cellsOf 5 = 1 := by kernel_rfl
  have k3 : Try.prog.cellsOf 23 = 1 := by kernel_rfl
  have k4 : Try.prog.cellsOf 3 = 1 := by kernel_rfl
  have k5 : Try.prog.cellsOf 24 = 1 := by kernel_rfl
  have f0 := hfs 0 _ rfl
  have f1 := hfs 1 _ rfl
  have f2 := hfs 2 _ rfl
  have f3 := hfs 3 _ rfl
  have f4 := hfs 4 _ rfl
  have f5 := hfs 5 _ rfl
  have f6 := hfs 6 _ rfl
  have f7 := hfs 7 _ rfl
  simp [Value.cells, k0, k1, k3, k4, k5] at f0 f1 f2 f3 f4 f5 f6 f7
  obtain ⟨x0, e0, _, w0⟩ := DataW.trod_int Try.underlying34 f0
  obtain ⟨x1, e1, _, w1⟩ := DataW.trod_int Try.underlying5 f1
  obtain ⟨x2, e2, _, w2⟩ := DataW.trod_int Try.underlying23 f2
  obtain ⟨x3, e3, _, w3⟩ := DataW.trod_int Try.underlying3 f3
  obtain ⟨x4, e4, _, w4⟩ := DataW.trod_int Try.underlying23 f4
  obtain ⟨x5, e5, _, w5⟩ := DataW.trod_int Try.underlying24 f5
  obtain ⟨x6, e6, _, w6⟩ := DataW.trod_int Try.underlying23 f6
  obtain ⟨x7, e7, _, w7⟩ := DataW.trod_int Try.underlying24 f7
  simp at e0 e1 e2 e3 e4 e5 e6 e7
  subst e0 e1 e2 e3 e4 e5 e6 e7
  simp [Lit.wf, IntKind.min, IntKind.max, IntKind.signed, IntKind.bits] at w0 w1 w2 w3 w4 w5 w6 w7
  exact ⟨⟨x0, x1, x2, x3, x4, x5, x6, x7⟩, rfl, w0, w1, w2, w3, w4, w5, w6, w7⟩

theorem open_rule {H : Type} {enc : TypeId × Value → H} {W : World} {r : Reach} {b0 : Nat} {v : Value} {d : DataW H} {p : List MemPlace} (hv : Value.okWide Try.prog W r b0 36 v) (h : DataW.Trod enc Try.prog W 0 (fun _ => true) true 36 v d p) :
    ∃ x : Ru, v = .agg (ruc x).toArray ∧ wfR x := by
  obtain ⟨cs, rfl, hsz⟩ := okWide_struct Try.underlying36 hv
  obtain ⟨fuel, hf⟩ := h
  obtain ⟨x, hx, hw⟩ := trod_rule hf (by simp [Value.cells]; exact hsz.trans (by kernel_rfl))
  refine ⟨x, ?_, hw⟩
  simp [Value.cells] at hx
  rw [← hx]

/-- A deed: a rule to be added, or a place to be dropped. -/
structure Dd where
  r : Ru
  drop : Bool
  at0 : Int
def ddc (d : Dd) : List Value := [.int .i64 d.r.kind, .int .u8 d.r.proto, .int .u32 d.r.net, .int .i64 d.r.bits, .int .u32 d.r.to, .int .u16 d.r.port, .int .u32 d.r.host, .int .u16 d.r.hp, .bool d.drop, .int .i64 d.at0]
def wfD (d : Dd) : Prop := wfR d.r ∧ (-9223372036854775808 ≤ d.at0 ∧ d.at0 ≤ 9223372036854775807)

theorem trod_deed9 {H : Type} {enc : TypeId × Value → H} {W : World} {n : Nat} {cs : List Value} {y : DataW H × List MemPlace} (h : DataW.trod enc Try.prog W 0 (fun _ => true) true n 51 cs = some y) (hl : cs.length = 10) : ∃ d : Dd, cs = ddc d ∧ wfD d := by
  obtain ⟨c0, c1, c2, c3, c4, c5, c6, c7, c8, c9, rfl⟩ := ls10 hl
  obtain ⟨xs, n, hn, hx, _, hlen, hfs⟩ := DataW.trod_struct Try.underlying51 h
  obtain ⟨y0, y1, y2, rfl⟩ := ls3 hlen
  have k0 : Try.prog.cellsOf 36 = 8 := by kernel_rfl
  have k1 : Try.prog.cellsOf 4 = 1 := by kernel_rfl
  have k4 : Try.prog.cellsOf 3 = 1 := by kernel_rfl
  have f0 := hfs 0 _ rfl
  have f1 := hfs 1 _ rfl
  have f2 := hfs 2 _ rfl
  simp [Value.cells, k0, k1, k4] at f0 f1 f2
  obtain ⟨x, e0, w0⟩ := trod_rule f0 rfl
  obtain ⟨b, e1, _⟩ := DataW.trod_bool Try.underlying4 f1
  obtain ⟨x2, e2, _, w2⟩ := DataW.trod_int Try.underlying3 f2
  simp [ruc] at e0 e1 e2
  obtain ⟨rfl, rfl, rfl, rfl, rfl, rfl, rfl, rfl⟩ := e0
  subst e1 e2
  simp [Lit.wf, IntKind.min, IntKind.max, IntKind.signed, IntKind.bits] at w2
  exact ⟨⟨x, b, x2⟩, rfl, w0, w2⟩

theorem open_deed9 {H : Type} {enc : TypeId × Value → H} {W : World} {r : Reach} {b0 : Nat} {v : Value} {d : DataW H} {p : List MemPlace} (hv : Value.okWide Try.prog W r b0 51 v) (h : DataW.Trod enc Try.prog W 0 (fun _ => true) true 51 v d p) :
    ∃ x : Dd, v = .agg (ddc x).toArray ∧ wfD x := by
  obtain ⟨cs, rfl, hsz⟩ := okWide_struct Try.underlying51 hv
  obtain ⟨fuel, hf⟩ := h
  obtain ⟨x, hx, hw⟩ := trod_deed9 hf (by simp [Value.cells]; exact hsz.trans (by kernel_rfl))
  refine ⟨x, ?_, hw⟩
  simp [Value.cells] at hx
  rw [← hx]

theorem open_ask9 {H : Type} {enc : TypeId × Value → H} {W : World} {r : Reach} {b0 : Nat} {v : Value} {d : DataW H} {p : List MemPlace} (hv : Value.okWide Try.prog W r b0 26 v) (h : DataW.Trod enc Try.prog W 0 (fun _ => true) true 26 v d p) :
    ∃ s q t u : Int, v = .agg #[.int .u32 s, .int .u8 q, .int .u32 t, .int .u16 u] ∧ (0 ≤ s ∧ s ≤ 4294967295) ∧ (0 ≤ q ∧ q ≤ 255) ∧ (0 ≤ t ∧ t ≤ 4294967295) ∧ (0 ≤ u ∧ u ≤ 65535) := by
  obtain ⟨cs, rfl, hsz⟩ := okWide_struct Try.underlying26 hv
  obtain ⟨fuel, hf⟩ := h
  obtain ⟨cs⟩ := cs
  obtain ⟨c0, c1, c2, c3, rfl⟩ := ls4 (show cs.length = 4 from hsz.trans (by kernel_rfl))
  obtain ⟨xs, n, hn, hx, _, hlen, hfs⟩ := DataW.trod_struct Try.underlying26 hf
  obtain ⟨y0, y1, y2, y3, rfl⟩ := ls4 hlen
  have k1 : Try.prog.cellsOf 5 = 1 := by kernel_rfl
  have k3 : Try.prog.cellsOf 23 = 1 := by kernel_rfl
  have k5 : Try.prog.cellsOf 24 = 1 := by kernel_rfl
  have f0 := hfs 0 _ rfl
  have f1 := hfs 1 _ rfl
  have f2 := hfs 2 _ rfl
  have f3 := hfs 3 _ rfl
  simp [Value.cells, k1, k3, k5] at f0 f1 f2 f3
  obtain ⟨x0, e0, _, w0⟩ := DataW.trod_int Try.underlying23 f0
  obtain ⟨x1, e1, _, w1⟩ := DataW.trod_int Try.underlying5 f1
  obtain ⟨x2, e2, _, w2⟩ := DataW.trod_int Try.underlying23 f2
  obtain ⟨x3, e3, _, w3⟩ := DataW.trod_int Try.underlying24 f3
  simp at e0 e1 e2 e3
  subst e0 e1 e2 e3
  simp [Lit.wf, IntKind.min, IntKind.max, IntKind.signed, IntKind.bits] at w0 w1 w2 w3
  exact ⟨x0, x1, x2, x3, rfl, w0, w1, w2, w3⟩

/-- The slice value reads as these deeds, all of it below block n₀. -/
def RdD (n₀ : Nat) (W : World) (sv : Value) (l : List Dd) : Prop :=
  (∃ a cap, sv = .slice a 0 cap ∧ l = [] ∧ cap ≤ 9223372036854775807) ∨
  ∃ b off cap, sv = .slice (some ⟨b, off, none⟩) l.length cap ∧ l ≠ [] ∧ l.length ≤ cap ∧ cap ≤ 9223372036854775807 ∧ b < n₀ ∧ ∀ j (hj : j < l.length), ∀ i, i < 10 → W.cell? ⟨b, off + j * 10 + i, none⟩ = (ddc l[j])[i]?
theorem RdD.below {n₀ : Nat} {A B : World} (h : Below n₀ A B) {sv : Value} {l : List Dd} : RdD n₀ A sv l → RdD n₀ B sv l
  | .inl e => .inl e
  | .inr ⟨b, off, cap, e, hne, hl, hm, hb, hc⟩ => .inr ⟨b, off, cap, e, hne, hl, hm, hb, fun j hj i hi => (h.cell (p := ⟨b, off + j * 10 + i, none⟩) hb).trans (hc j hj i hi)⟩
theorem RdD.slice {n₀ : Nat} {A : World} {sv : Value} {l : List Dd} : RdD n₀ A sv l → ∃ a cap, sv = .slice a l.length cap ∧ l.length ≤ cap ∧ cap ≤ 9223372036854775807
  | .inl ⟨a, cap, e, hz, hm⟩ => ⟨a, cap, by rw [e, hz]; rfl, by rw [hz]; exact Nat.zero_le _, hm⟩
  | .inr ⟨b, off, cap, e, _, hl, hm, _⟩ => ⟨_, cap, e, hl, hm⟩
theorem RdD.cells {n₀ : Nat} {W : World} {sv : Value} {l : List Dd} (h : RdD n₀ W sv l) (hne : 0 < l.length) : ∃ b off cap, sv = .slice (some ⟨b, off, none⟩) l.length cap ∧ l.length ≤ cap ∧ cap ≤ 9223372036854775807 ∧ b < n₀ ∧ ∀ j (hj : j < l.length), ∀ i, i < 10 → W.cell? ⟨b, off + j * 10 + i, none⟩ = (ddc l[j])[i]? := by
  rcases h with ⟨a, cap, _, rfl, _⟩ | ⟨b, off, cap, e, _, hl, hm, hb, hc⟩
  · simp at hne
  · exact ⟨b, off, cap, e, hl, hm, hb, hc⟩

theorem open_deeds9 {H : Type} {enc : TypeId × Value → H} {W : World} {n : Nat} {c : Value} {y : DataW H × List MemPlace} (h : DataW.trod enc Try.prog W 0 (fun _ => true) true n 22 [c] = some y) : ∃ l, RdD W.heap.size W c l ∧ ∀ d ∈ l, wfD d := by
  rcases DataW.trod_slice Try.underlying22 h with ⟨hcs, _⟩ | ⟨a, len, cap, elems, rest, n, _, hcs, rfl, hb, hl, hm, hlen, hel, hsp, hns⟩
  · simp at hcs
    subst hcs
    exact ⟨[], .inl ⟨_, _, rfl, rfl, by omega⟩, fun d hd => by cases hd⟩
  · simp at hcs
    subst hcs
    have hc1 : Try.prog.cellsOf 51 = 10 := by kernel_rfl
    by_cases h0 : len = 0
    · subst h0
      exact ⟨[], .inl ⟨_, _, rfl, rfl, by simpa [maxLen] using hm⟩, fun d hd => by cases hd⟩
    have each : ∀ i, ∃ d : Dd, i < len → wfD d ∧ ∀ j, j < 10 → W.cell? ((a.add (i * 10)).add j) = (ddc d)[j]? := fun i => by
      by_cases hi : i < len
      · have h1 := hel i hi
        rw [hc1] at h1
        have hy : elems[i]? = some (elems[i]'(by omega)) := List.getElem?_eq_getElem (by omega)
        rw [hy, Option.bind_eq_some_iff] at h1
        obtain ⟨cs', hcs, hy'⟩ := h1
        obtain ⟨q1, q2, q3⟩ := World.cells?_some hcs
        obtain ⟨d, e, hw⟩ := trod_deed9 hy' q2
        exact ⟨d, fun _ => ⟨hw, fun j hj => by rw [q3 j hj, e]⟩⟩
      · exact ⟨⟨zRu, false, 0⟩, fun h => absurd h hi⟩
    obtain ⟨O, hO⟩ := Classical.axiomOfChoice each
    obtain ⟨b, off, spot⟩ := a
    have hc : W.cell? _ = some _ := ((hO 0 (by omega)).2 0 (by omega))
    have hspot : spot = none := by simpa [Addr.add] using World.cell?_spot hc
    subst hspot
    refine ⟨(List.range len).map O, .inr ⟨b, off, cap, by simp, by intro e; have := congrArg List.length e; simp at this; omega, by simp; omega, by simpa [maxLen] using hm, ?_, fun j hj i hi => ?_⟩, fun d hd => ?_⟩
    · have := World.block_lt_of_cell? W _ hc
      simpa [Addr.add] using this
    · have hj' : j < len := by simpa using hj
      have := (hO j hj').2 i hi
      rw [addr_add, addr_add] at this
      rw [this]
      simp
    · obtain ⟨i, hi, rfl⟩ := List.mem_map.1 hd
      exact (hO i (by simpa using hi)).1
end Go.Proofs.Ytgjemeibaghfaaa
