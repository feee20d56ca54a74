/- How arguments that are expected flows, deeds of a book read. -/
import Derived.Test.YtbimdhapkbdmjaaRows
import Derived.ProofKit
import Derived.OpenShut
import Derived.Lib.SmallJoins
import Derived.ChangeSlices
import Derived.Test.YtbimdhapkbdmjaaEB
namespace Go.Proofs.Ytbimdhapkbdmjaa
open Go.ChangeShapes Go.WideShapes Go.ChangeAt Go.RowKit Go.Joins
set_option maxRecDepth 100000
set_option linter.unusedVariables false
set_option linter.unusedSimpArgs false

theorem lsx16 {α : Type} {l : List α} (h : l.length = 16) : ∃ a0 a1 a2 a3 a4 a5 a6 a7 a8 a9 a10 a11 a12 a13 a14 a15, l = [a0, a1, a2, a3, a4, a5, a6, a7, a8, a9, a10, a11, a12, a13, a14, a15] := by
  match l, h with
  | [a0, a1, a2, a3, a4, a5, a6, a7, a8, a9, a10, a11, a12, a13, a14, a15], _ => exact ⟨a0, a1, a2, a3, a4, a5, a6, a7, a8, a9, a10, a11, a12, a13, a14, a15, rfl⟩
theorem lsx9 {α : Type} {l : List α} (h : l.length = 9) : ∃ a0 a1 a2 a3 a4 a5 a6 a7 a8, l = [a0, a1, a2, a3, a4, a5, a6, a7, a8] := by
  match l, h with
  | [a0, a1, a2, a3, a4, a5, a6, a7, a8], _ => exact ⟨a0, a1, a2, a3, a4, a5, a6, a7, a8, rfl⟩
theorem lsx5 {α : Type} {l : List α} (h : l.length = 5) : ∃ a0 a1 a2 a3 a4, l = [a0, a1, a2, a3, a4] := by
  match l, h with
  | [a0, a1, a2, a3, a4], _ => exact ⟨a0, a1, a2, a3, a4, rfl⟩
theorem lsx4 {α : Type} {l : List α} (h : l.length = 4) : ∃ a0 a1 a2 a3, l = [a0, a1, a2, a3] := by
  match l, h with
  | [a0, a1, a2, a3], _ => exact ⟨a0, a1, a2, a3, rfl⟩

def wfT (r : Tu) : Prop := (0 ≤ r.pr ∧ r.pr ≤ 255) ∧ (0 ≤ r.src ∧ r.src ≤ 4294967295) ∧ (0 ≤ r.dst ∧ r.dst ≤ 4294967295) ∧ (0 ≤ r.sp ∧ r.sp ≤ 65535) ∧ (0 ≤ r.dp ∧ r.dp ≤ 65535)

theorem trod_exp {H : Type} {enc : TypeId × Value → H} {W : World} {n : Nat} {cs : List Value} {y : DataW H × List MemPlace} (h : DataW.trod enc Try.prog W 0 (fun _ => true) true n 26 cs = some y) (hl : cs.length = 9) : ∃ r : Ex, cs = exc r ∧ wfX r := by
  obtain ⟨c0, c1, c2, c3, c4, c5, c6, c7, c8, rfl⟩ := lsx9 hl
  obtain ⟨xs, n, hn, hx, _, hlen, hfs⟩ := DataW.trod_struct Try.underlying26 h
  obtain ⟨y0, y1, y2, y3, y4, y5, y6, y7, y8, rfl⟩ := lsx9 hlen
  have k0 : Try.prog.cellsOf 3 = 1 := by kernel_rfl
  have k1 : Try.prog.cellsOf 24 = 1 := by kernel_rfl
  have k2 : Try.prog.cellsOf 23 = 1 := by kernel_rfl
  have k3 : Try.prog.cellsOf 5 = 1 := by kernel_rfl
  have f0 := hfs 0 _ rfl
  have f1 := hfs 1 _ rfl
  have f2 := hfs 2 _ rfl
  have f3 := hfs 3 _ rfl
  have f4 := hfs 4 _ rfl
  have f5 := hfs 5 _ rfl
  have f6 := hfs 6 _ rfl
  have f7 := hfs 7 _ rfl
  have f8 := hfs 8 _ rfl
  simp [Value.cells, k0, k1, k2, k3] at f0 f1 f2 f3 f4 f5 f6 f7 f8
  obtain ⟨x0, e0, _, w0⟩ := DataW.trod_int Try.underlying5 f0
  obtain ⟨x1, e1, _, w1⟩ := DataW.trod_int Try.underlying23 f1
  obtain ⟨x2, e2, _, w2⟩ := DataW.trod_int Try.underlying23 f2
  obtain ⟨x3, e3, _, w3⟩ := DataW.trod_int Try.underlying24 f3
  obtain ⟨x4, e4, _, w4⟩ := DataW.trod_int Try.underlying24 f4
  obtain ⟨x5, e5, _, w5⟩ := DataW.trod_int Try.underlying23 f5
  obtain ⟨x6, e6, _, w6⟩ := DataW.trod_int Try.underlying24 f6
  obtain ⟨x7, e7, _, w7⟩ := DataW.trod_int Try.underlying3 f7
  obtain ⟨x8, e8, _, w8⟩ := DataW.trod_int Try.underlying3 f8
  simp at e0 e1 e2 e3 e4 e5 e6 e7 e8
  subst e0 e1 e2 e3 e4 e5 e6 e7 e8
  simp [Lit.wf, IntKind.min, IntKind.max, IntKind.signed, IntKind.bits] at w0 w1 w2 w3 w4 w5 w6 w7 w8
  exact ⟨⟨x0, x1, x2, x3, x4, x5, x6, x7, x8⟩, rfl, w0, w1, w2, w3, w4, w5, w6, w7, w8⟩

theorem trod_tup {H : Type} {enc : TypeId × Value → H} {W : World} {n : Nat} {cs : List Value} {y : DataW H × List MemPlace} (h : DataW.trod enc Try.prog W 0 (fun _ => true) true n 28 cs = some y) (hl : cs.length = 5) : ∃ r : Tu, cs = tuc r ∧ wfT r := by
  obtain ⟨c0, c1, c2, c3, c4, rfl⟩ := lsx5 hl
  obtain ⟨xs, n, hn, hx, _, hlen, hfs⟩ := DataW.trod_struct Try.underlying28 h
  obtain ⟨y0, y1, y2, y3, y4, rfl⟩ := lsx5 hlen
  have k0 : Try.prog.cellsOf 24 = 1 := by kernel_rfl
  have k1 : Try.prog.cellsOf 23 = 1 := by kernel_rfl
  have k2 : Try.prog.cellsOf 5 = 1 := by kernel_rfl
  have f0 := hfs 0 _ rfl
  have f1 := hfs 1 _ rfl
  have f2 := hfs 2 _ rfl
  have f3 := hfs 3 _ rfl
  have f4 := hfs 4 _ rfl
  simp [Value.cells, k0, k1, k2] at f0 f1 f2 f3 f4
  obtain ⟨x0, e0, _, w0⟩ := DataW.trod_int Try.underlying5 f0
  obtain ⟨x1, e1, _, w1⟩ := DataW.trod_int Try.underlying23 f1
  obtain ⟨x2, e2, _, w2⟩ := DataW.trod_int Try.underlying23 f2
  obtain ⟨x3, e3, _, w3⟩ := DataW.trod_int Try.underlying24 f3
  obtain ⟨x4, e4, _, w4⟩ := DataW.trod_int Try.underlying24 f4
  simp at e0 e1 e2 e3 e4
  subst e0 e1 e2 e3 e4
  simp [Lit.wf, IntKind.min, IntKind.max, IntKind.signed, IntKind.bits] at w0 w1 w2 w3 w4
  exact ⟨⟨x0, x1, x2, x3, x4⟩, rfl, w0, w1, w2, w3, w4⟩

theorem open_exp {H : Type} {enc : TypeId × Value → H} {W : World} {r : Reach} {b0 : Nat} {v : Value} {d : DataW H} {p : List MemPlace} (hv : Value.okWide Try.prog W r b0 26 v) (h : DataW.Trod enc Try.prog W 0 (fun _ => true) true 26 v d p) :
    ∃ x : Ex, v = .agg (exc x).toArray ∧ wfX x := by
  obtain ⟨cs, rfl, hsz⟩ := okWide_struct Try.underlying26 hv
  obtain ⟨fuel, hf⟩ := h
  obtain ⟨x, hx, hw⟩ := trod_exp hf (by simp [Value.cells]; exact hsz.trans (by kernel_rfl))
  refine ⟨x, ?_, hw⟩
  simp [Value.cells] at hx
  rw [← hx]

/-- A deed on a book: its kind, a flow, a tuple, a time. -/
structure Dx where
  k : Int
  e : Ex
  t : Tu
  now : Int
def dxc (d : Dx) : List Value := [.int .i64 d.k, .int .u8 d.e.pr, .int .u32 d.e.src, .int .u32 d.e.dst, .int .u16 d.e.sp, .int .u16 d.e.dp, .int .u32 d.e.host, .int .u16 d.e.hp, .int .i64 d.e.ms, .int .i64 d.e.dl, .int .u8 d.t.pr, .int .u32 d.t.src, .int .u32 d.t.dst, .int .u16 d.t.sp, .int .u16 d.t.dp, .int .i64 d.now]
def wfDx (d : Dx) : Prop := wfX d.e ∧ wfT d.t

theorem trod_deed12 {H : Type} {enc : TypeId × Value → H} {W : World} {n : Nat} {cs : List Value} {y : DataW H × List MemPlace} (h : DataW.trod enc Try.prog W 0 (fun _ => true) true n 30 cs = some y) (hl : cs.length = 16) : ∃ d : Dx, cs = dxc d ∧ wfDx d := by
  obtain ⟨c0, c1, c2, c3, c4, c5, c6, c7, c8, c9, c10, c11, c12, c13, c14, c15, rfl⟩ := lsx16 hl
  obtain ⟨xs, n, hn, hx, _, hlen, hfs⟩ := DataW.trod_struct Try.underlying30 h
  obtain ⟨y0, y1, y2, y3, rfl⟩ := lsx4 hlen
  have k0 : Try.prog.cellsOf 3 = 1 := by kernel_rfl
  have k1 : Try.prog.cellsOf 26 = 9 := by kernel_rfl
  have k2 : Try.prog.cellsOf 28 = 5 := by kernel_rfl
  have f0 := hfs 0 _ rfl
  have f1 := hfs 1 _ rfl
  have f2 := hfs 2 _ rfl
  have f3 := hfs 3 _ rfl
  simp [Value.cells, k0, k1, k2] at f0 f1 f2 f3
  obtain ⟨x0, e0, _, w0⟩ := DataW.trod_int Try.underlying3 f0
  obtain ⟨x, e1, w1⟩ := trod_exp f1 rfl
  obtain ⟨t, e2, w2⟩ := trod_tup f2 rfl
  obtain ⟨x3, e3, _, w3⟩ := DataW.trod_int Try.underlying3 f3
  simp [exc, tuc] at e0 e1 e2 e3
  obtain ⟨rfl, rfl, rfl, rfl, rfl, rfl, rfl, rfl, rfl⟩ := e1
  obtain ⟨rfl, rfl, rfl, rfl, rfl⟩ := e2
  subst e0 e3
  exact ⟨⟨x0, x, t, x3⟩, rfl, w1, w2⟩

theorem open_deed12 {H : Type} {enc : TypeId × Value → H} {W : World} {r : Reach} {b0 : Nat} {v : Value} {d : DataW H} {p : List MemPlace} (hv : Value.okWide Try.prog W r b0 30 v) (h : DataW.Trod enc Try.prog W 0 (fun _ => true) true 30 v d p) :
    ∃ x : Dx, v = .agg (dxc x).toArray ∧ wfDx x := by
  obtain ⟨cs, rfl, hsz⟩ := okWide_struct Try.underlying30 hv
  obtain ⟨fuel, hf⟩ := h
  obtain ⟨x, hx, hw⟩ := trod_deed12 hf (by simp [Value.cells]; exact hsz.trans (by kernel_rfl))
  refine ⟨x, ?_, hw⟩
  simp [Value.cells] at hx
  rw [← hx]

/-- The slice value reads as these deeds, all of it below block n₀. -/
def RdX (n₀ : Nat) (W : World) (sv : Value) (l : List Dx) : Prop :=
  (∃ a cap, sv = .slice a 0 cap ∧ l = [] ∧ cap ≤ 9223372036854775807) ∨
  ∃ b off cap, sv = .slice (some ⟨b, off, none⟩) l.length cap ∧ l ≠ [] ∧ l.length ≤ cap ∧ cap ≤ 9223372036854775807 ∧ b < n₀ ∧ ∀ j (hj : j < l.length), ∀ i, i < 16 → W.cell? ⟨b, off + j * 16 + i, none⟩ = (dxc l[j])[i]?
theorem RdX.below {n₀ : Nat} {A B : World} (h : Below n₀ A B) {sv : Value} {l : List Dx} : RdX n₀ A sv l → RdX n₀ B sv l
  | .inl e => .inl e
  | .inr ⟨b, off, cap, e, hne, hl, hm, hb, hc⟩ => .inr ⟨b, off, cap, e, hne, hl, hm, hb, fun j hj i hi => (h.cell (p := ⟨b, off + j * 16 + i, none⟩) hb).trans (hc j hj i hi)⟩
theorem RdX.slice {n₀ : Nat} {A : World} {sv : Value} {l : List Dx} : RdX n₀ A sv l → ∃ a cap, sv = .slice a l.length cap ∧ l.length ≤ cap ∧ cap ≤ 9223372036854775807
  | .inl ⟨a, cap, e, hz, hm⟩ => ⟨a, cap, by rw [e, hz]; rfl, by rw [hz]; exact Nat.zero_le _, hm⟩
  | .inr ⟨b, off, cap, e, _, hl, hm, _⟩ => ⟨_, cap, e, hl, hm⟩
theorem RdX.cells {n₀ : Nat} {W : World} {sv : Value} {l : List Dx} (h : RdX n₀ W sv l) (hne : 0 < l.length) : ∃ b off cap, sv = .slice (some ⟨b, off, none⟩) l.length cap ∧ l.length ≤ cap ∧ cap ≤ 9223372036854775807 ∧ b < n₀ ∧ ∀ j (hj : j < l.length), ∀ i, i < 16 → W.cell? ⟨b, off + j * 16 + i, none⟩ = (dxc l[j])[i]? := by
  rcases h with ⟨a, cap, _, rfl, _⟩ | ⟨b, off, cap, e, _, hl, hm, hb, hc⟩
  · simp at hne
  · exact ⟨b, off, cap, e, hl, hm, hb, hc⟩

theorem open_deeds12 {H : Type} {enc : TypeId × Value → H} {W : World} {n : Nat} {c : Value} {y : DataW H × List MemPlace} (h : DataW.trod enc Try.prog W 0 (fun _ => true) true n 22 [c] = some y) : ∃ l, RdX W.heap.size W c l ∧ ∀ d ∈ l, wfDx d := by
  rcases DataW.trod_slice Try.underlying22 h with ⟨hcs, _⟩ | ⟨a, len, cap, elems, rest, n, _, hcs, rfl, hb, hl, hm, hlen, hel, hsp, hns⟩
  · simp at hcs
    subst hcs
    exact ⟨[], .inl ⟨_, _, rfl, rfl, by omega⟩, fun d hd => by cases hd⟩
  · simp at hcs
    subst hcs
    have hc1 : Try.prog.cellsOf 30 = 16 := by kernel_rfl
    by_cases h0 : len = 0
    · subst h0
      exact ⟨[], .inl ⟨_, _, rfl, rfl, by simpa [maxLen] using hm⟩, fun d hd => by cases hd⟩
    have each : ∀ i, ∃ d : Dx, i < len → wfDx d ∧ ∀ j, j < 16 → W.cell? ((a.add (i * 16)).add j) = (dxc d)[j]? := fun i => by
      by_cases hi : i < len
      · have h1 := hel i hi
        rw [hc1] at h1
        have hy : elems[i]? = some (elems[i]'(by omega)) := List.getElem?_eq_getElem (by omega)
        rw [hy, Option.bind_eq_some_iff] at h1
        obtain ⟨cs', hcs, hy'⟩ := h1
        obtain ⟨q1, q2, q3⟩ := World.cells?_some hcs
        obtain ⟨d, e, hw⟩ := trod_deed12 hy' q2
        exact ⟨d, fun _ => ⟨hw, fun j hj => by rw [q3 j hj, e]⟩⟩
      · exact ⟨⟨0, zEx, ⟨0, 0, 0, 0, 0⟩, 0⟩, fun h => absurd h hi⟩
    obtain ⟨O, hO⟩ := Classical.axiomOfChoice each
    obtain ⟨b, off, spot⟩ := a
    have hc : W.cell? _ = some _ := ((hO 0 (by omega)).2 0 (by omega))
    have hspot : spot = none := by simpa [Addr.add] using World.cell?_spot hc
    subst hspot
    refine ⟨(List.range len).map O, .inr ⟨b, off, cap, by simp, by intro e; have := congrArg List.length e; simp at this; omega, by simp; omega, by simpa [maxLen] using hm, ?_, fun j hj i hi => ?_⟩, fun d hd => ?_⟩
    · have := World.block_lt_of_cell? W _ hc
      simpa [Addr.add] using this
    · have hj' : j < len := by simpa using hj
      have := (hO j hj').2 i hi
      rw [addr_add', addr_add'] at this
      rw [this]
      simp
    · obtain ⟨i, hi, rfl⟩ := List.mem_map.1 hd
      exact (hO i (by simpa using hi)).1
end Go.Proofs.Ytbimdhapkbdmjaa
