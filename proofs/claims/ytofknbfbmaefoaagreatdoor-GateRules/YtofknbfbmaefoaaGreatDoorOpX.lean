import Derived.Test.YtofknbfbmaefoaaGreatDoorOp2
import Derived.Test.YtofknbfbmaefoaaGreatDoorOpB
namespace Go.Proofs.YtofknbfbmaefoaaGreatDoor
open Go.ChangeShapes Go.WideShapes Go.ChangeAt Go.RowKit Go.Joins
set_option maxRecDepth 100000
set_option linter.unusedVariables false
set_option linter.unusedSimpArgs false
structure Aop where
 kd : Int
 sd : Int
 bv : Value
 zs : List Int
 r : Ru
 nw : Int
def aoc (d : Aop) : List Value := [.int .i64 d.kd, .int .i64 d.sd, d.bv, .int .i64 d.r.kind, .int .u8 d.r.proto, .int .u32 d.r.net, .int .i64 d.r.bits, .int .u32 d.r.tt, .int .u16 d.r.port, .int .u32 d.r.host, .int .u16 d.r.hp, .int .i64 d.nw]
def wfAo (n₀ : Nat) (W : World) (d : Aop) : Prop := Mt.By d.zs ∧ Rd n₀ W d.bv d.zs ∧ wfR d.r
theorem wfAo.below {n₀ : Nat} {A B : World} {d : Aop} (h : wfAo n₀ A d) (k : Below n₀ A B) : wfAo n₀ B d := ⟨h.1, h.2.1.below k, h.2.2⟩
theorem ls12 {α : Type} {l : List α} (h : l.length = 12) : ∃ a b c d e f g i j k m n, l = [a, b, c, d, e, f, g, i, j, k, m, n] := by
 match l, h with
 | [a, b, c, d, e, f, g, i, j, k, m, n], _ => exact ⟨a, b, c, d, e, f, g, i, j, k, m, n, rfl⟩
theorem ls5 {α : Type} {l : List α} (h : l.length = 5) : ∃ a b c d e, l = [a, b, c, d, e] := by
 match l, h with
 | [a, b, c, d, e], _ => exact ⟨a, b, c, d, e, rfl⟩
theorem trod_op16 {H : Type} {enc : TypeId × Value → H} {W : World} {n : Nat} {cs : List Value} {y : DataW H × List MemPlace} (h : DataW.trod enc Tryz.prog W 0 (fun _ => true) true n 37 cs = some y) (hl : cs.length = 12) : ∃ d : Aop, cs = aoc d ∧ wfAo W.heap.size W d := by
 obtain ⟨c0, c1, c2, c3, c4, c5, c6, c7, c8, c9, c10, c11, rfl⟩ := ls12 hl
 obtain ⟨xs, n, _, hx, _, hlen, hfs⟩ := DataW.trod_struct Tryz.underlying37 h
 obtain ⟨y0, y1, y2, y3, y4, rfl⟩ := ls5 hlen
 have k0 : Tryz.prog.cellsOf 3 = 1 := by kernel_rfl
 have k1 : Tryz.prog.cellsOf 30 = 1 := by kernel_rfl
 have k2 : Tryz.prog.cellsOf 31 = 1 := by kernel_rfl
 have k3 : Tryz.prog.cellsOf 35 = 8 := by kernel_rfl
 have f0 := hfs 0 _ rfl
 have f1 := hfs 1 _ rfl
 have f2 := hfs 2 _ rfl
 have f3 := hfs 3 _ rfl
 have f4 := hfs 4 _ rfl
 simp [Value.cells, k0, k1, k2, k3] at f0 f1 f2 f3 f4
 obtain ⟨kd, e0, _, w0⟩ := DataW.trod_int Tryz.underlying3 f0
 obtain ⟨sd, e1, _, w1⟩ := DataW.trod_int Tryz.underlying30 f1
 obtain ⟨zd, hBd, hId, hwd⟩ := open_bytes f2
 obtain ⟨x, e3, w3⟩ := trod_rule f3 rfl
 obtain ⟨nw, e4, _, w4⟩ := DataW.trod_int Tryz.underlying3 f4
 simp [ruc] at e0 e1 e3 e4
 obtain ⟨rfl, rfl, rfl, rfl, rfl, rfl, rfl, rfl⟩ := e3
 subst e0 e1 e4
 exact ⟨⟨kd, sd, c2, zd, x, nw⟩, rfl, hBd, hId, w3⟩
def RdO16 (n₀ : Nat) (W : World) (sv : Value) (l : List Aop) : Prop :=
 ((∃ a cap, sv = .slice a 0 cap ∧ l = [] ∧ cap ≤ 9223372036854775807) ∨
 ∃ b off cap, sv = .slice (some ⟨b, off, none⟩) l.length cap ∧ l ≠ [] ∧ l.length ≤ cap ∧ cap ≤ 9223372036854775807 ∧ b < n₀ ∧ ∀ j (hj : j < l.length), ∀ i, i < 12 → W.cell? ⟨b, off + j * 12 + i, none⟩ = (aoc l[j])[i]?) ∧ ∀ d ∈ l, wfAo n₀ W d
theorem RdO16.below {n₀ : Nat} {A B : World} (h : Below n₀ A B) {sv : Value} {l : List Aop} (r : RdO16 n₀ A sv l) : RdO16 n₀ B sv l := by
 refine ⟨?_, fun d hd => (r.2 d hd).below h⟩
 rcases r.1 with e | ⟨b, off, cap, e, hne, hl, hm, hb, hc⟩
 ·exact .inl e
 ·exact .inr ⟨b, off, cap, e, hne, hl, hm, hb, fun j hj i hi => (h.cell (p := ⟨b, off + j * 12 + i, none⟩) hb).trans (hc j hj i hi)⟩
theorem RdO16.slice {n₀ : Nat} {A : World} {sv : Value} {l : List Aop} (r : RdO16 n₀ A sv l) : ∃ a cap, sv = .slice a l.length cap ∧ l.length ≤ cap ∧ cap ≤ 9223372036854775807 := by
 rcases r.1 with ⟨a, cap, e, hz, hm⟩ | ⟨b, off, cap, e, _, hl, hm, _⟩
 ·exact ⟨a, cap, by rw [e, hz]; rfl, by rw [hz]; exact Nat.zero_le _, hm⟩
 ·exact ⟨_, cap, e, hl, hm⟩
theorem RdO16.cells {n₀ : Nat} {W : World} {sv : Value} {l : List Aop} (h : RdO16 n₀ W sv l) (hne : 0 < l.length) : ∃ b off cap, sv = .slice (some ⟨b, off, none⟩) l.length cap ∧ l.length ≤ cap ∧ cap ≤ 9223372036854775807 ∧ b < n₀ ∧ ∀ j (hj : j < l.length), ∀ i, i < 12 → W.cell? ⟨b, off + j * 12 + i, none⟩ = (aoc l[j])[i]? := by
 rcases h.1 with ⟨a, cap, _, rfl, _⟩ | ⟨b, off, cap, e, _, hl, hm, hb, hc⟩
 ·simp at hne
 ·exact ⟨b, off, cap, e, hl, hm, hb, hc⟩
theorem addr_add16 (b off k : Nat) : (⟨b, off, none⟩ : Addr).add k = ⟨b, off + k, none⟩ := by unfold Addr.add; split <;> simp_all
theorem open_ops16 {H : Type} {enc : TypeId × Value → H} {W : World} {n : Nat} {c : Value} {y : DataW H × List MemPlace} (h : DataW.trod enc Tryz.prog W 0 (fun _ => true) true n 23 [c] = some y) : ∃ l, RdO16 W.heap.size W c l := by
 rcases DataW.trod_slice Tryz.underlying23 h with ⟨hcs, _⟩ | ⟨a, len, cap, elems, rest, n, _, hcs, rfl, hb, hl, hm, hlen, hel, hsp, hns⟩
 ·simp at hcs
  subst hcs
  exact ⟨[], .inl ⟨_, _, rfl, rfl, by omega⟩, fun d hd => by cases hd⟩
 ·simp at hcs
  subst hcs
  have hc1 : Tryz.prog.cellsOf 37 = 12 := by kernel_rfl
  by_cases h0 : len = 0
  ·subst h0
   exact ⟨[], .inl ⟨_, _, rfl, rfl, by simpa [maxLen] using hm⟩, fun d hd => by cases hd⟩
  have each : ∀ i, ∃ d : Aop, i < len → wfAo W.heap.size W d ∧ ∀ j, j < 12 → W.cell? ((a.add (i * 12)).add j) = (aoc d)[j]? := fun i => by
   by_cases hi : i < len
   ·have h1 := hel i hi
    rw [hc1] at h1
    have hy : elems[i]? = some (elems[i]'(by omega)) := List.getElem?_eq_getElem (by omega)
    rw [hy, Option.bind_eq_some_iff] at h1
    obtain ⟨cs', hcs, hy'⟩ := h1
    obtain ⟨q1, q2, q3⟩ := World.cells?_some hcs
    obtain ⟨d, e, hw⟩ := trod_op16 hy' q2
    exact ⟨d, fun _ => ⟨hw, fun j hj => by rw [q3 j hj, e]⟩⟩
   ·exact ⟨⟨0, 0, undef, [], zRu, 0⟩, fun h => absurd h hi⟩
  obtain ⟨O, hO⟩ := Classical.axiomOfChoice each
  obtain ⟨b, off, spot⟩ := a
  have hc : W.cell? _ = some _ := ((hO 0 (by omega)).2 0 (by omega))
  have hspot : spot = none := by simpa [Addr.add] using World.cell?_spot hc
  subst hspot
  refine ⟨(List.range len).map O, .inr ⟨b, off, cap, by simp, by intro e; have := congrArg List.length e; simp at this; omega, by simp; omega, by simpa [maxLen] using hm, ?_, fun j hj i hi => ?_⟩, fun d hd => ?_⟩
  ·have := World.block_lt_of_cell? W _ hc
   simpa [Addr.add] using this
  ·have hj' : j < len := by simpa using hj
   have := (hO j hj').2 i hi
   rw [addr_add16, addr_add16] at this
   rw [this]
   simp
  ·obtain ⟨i, hi, rfl⟩ := List.mem_map.1 hd
   exact (hO i (by simpa using hi)).1
theorem open_script {H : Type} {enc : TypeId × Value → H} {W : World} {r : Reach} {b0 : Nat} {v : Value} {d : DataW H} {p : List MemPlace} (hv : Value.okWide Tryz.prog W r b0 25 v) (h : DataW.Trod enc Tryz.prog W 0 (fun _ => true) true 25 v d p) :
  ∃ (lo sz : Int) (sv : Value) (l : List Aop), v = .agg #[.int .u16 lo, .int .u16 sz, sv] ∧ (0 ≤ lo ∧ lo ≤ 65535) ∧ (0 ≤ sz ∧ sz ≤ 65535) ∧ RdO16 W.heap.size W sv l := by
 obtain ⟨cs, rfl, hsz⟩ := okWide_struct Tryz.underlying25 hv
 obtain ⟨fuel, hf⟩ := h
 obtain ⟨cs⟩ := cs
 obtain ⟨c0, c1, c2, rfl⟩ := ls3 (show cs.length = 3 from hsz.trans (by kernel_rfl))
 obtain ⟨xs, n, hn, hx, _, hlen, hfs⟩ := DataW.trod_struct Tryz.underlying25 hf
 obtain ⟨y0, y1, y2, rfl⟩ := ls3 hlen
 have k0 : Tryz.prog.cellsOf 22 = 1 := by kernel_rfl
 have k1 : Tryz.prog.cellsOf 23 = 1 := by kernel_rfl
 have f0 := hfs 0 _ rfl
 have f1 := hfs 1 _ rfl
 have f2 := hfs 2 _ rfl
 simp [Value.cells, k0, k1] at f0 f1 f2
 obtain ⟨x0, e0, _, w0⟩ := DataW.trod_int Tryz.underlying22 f0
 obtain ⟨x1, e1, _, w1⟩ := DataW.trod_int Tryz.underlying22 f1
 obtain ⟨l, hl⟩ := open_ops16 f2
 simp at e0 e1
 subst e0 e1
 exact ⟨x0, x1, c2, l, rfl, by simpa [Lit.wf, IntKind.min, IntKind.max, IntKind.signed, IntKind.bits] using w0, by simpa [Lit.wf, IntKind.min, IntKind.max, IntKind.signed, IntKind.bits] using w1, hl⟩
end Go.Proofs.YtofknbfbmaefoaaGreatDoor
