/- How an argument that is a datagram, or a segment, reads. -/
import Derived.Deep.SlicePairs
import Derived.Test.YtdabhbadcbnkhaaDoorOp2
import Derived.Test.YtdabhbadcbnkhaaDoorSG
namespace Go.Proofs.YtdabhbadcbnkhaaDoor
open Go.ChangeShapes Go.WideShapes Go.ChangeAt Go.RowKit Go.Joins
set_option maxRecDepth 100000
set_option linter.unusedVariables false

theorem array4d {α : Type} {cs : Array α} (h : cs.size = 4) : ∃ c0 c1 c2 c3, cs = #[c0, c1, c2, c3] := by
  obtain ⟨l⟩ := cs
  match l, h with
  | [c0, c1, c2, c3], _ => exact ⟨c0, c1, c2, c3, rfl⟩
theorem list4d {α : Type} {l : List α} (h : l.length = 4) : ∃ c0 c1 c2 c3, l = [c0, c1, c2, c3] := by
  match l, h with
  | [c0, c1, c2, c3], _ => exact ⟨c0, c1, c2, c3, rfl⟩

/-- A packet, by value. -/
theorem open_packetz {H : Type} {enc : TypeId × Value → H} {W : World} {r : Reach} {b0 : Nat} {v : Value} {d : DataW H} {p : List MemPlace} (hv : Value.okWide Tryd.prog W r b0 26 v) (h : DataW.Trod enc Tryd.prog W 0 (fun _ => true) true 26 v d p) :
    ∃ (tos id ttl proto src dst : Int) (keep : Bool) (so sd : Value) (zo zd : List Int), v = .agg #[.int .u8 tos, .int .u16 id, .bool keep, .int .u8 ttl, .int .u8 proto, .int .u32 src, .int .u32 dst, so, sd] ∧
      (Mt.By zo ∧ Mt.By zd) ∧ (Rd W.heap.size W so zo ∧ Rd W.heap.size W sd zd) ∧ ((DataW.weights Tryd.prog 26 d).all (· ≤ reachBytes) = true → zo.length ≤ 140737488351232 ∧ zd.length ≤ 140737488351232) ∧
      (0 ≤ tos ∧ tos ≤ 255) ∧ (0 ≤ id ∧ id ≤ 65535) ∧ (0 ≤ ttl ∧ ttl ≤ 255) ∧ (0 ≤ proto ∧ proto ≤ 255) ∧ (0 ≤ src ∧ src ≤ 4294967295) ∧ (0 ≤ dst ∧ dst ≤ 4294967295) := by
  obtain ⟨cs, rfl, hsz⟩ := okWide_struct Tryd.underlying26 hv
  obtain ⟨c0, c1, c2, c3, c4, c5, c6, c7, c8, rfl⟩ := array9 (hsz.trans (by kernel_rfl))
  obtain ⟨fuel, hf⟩ := h
  obtain ⟨xs, n, _, hx, _, hlen, hfs⟩ := DataW.trod_struct Tryd.underlying26 hf
  obtain ⟨y0, y1, y2, y3, y4, y5, y6, y7, y8, rfl⟩ := list9 hlen
  have k1 : Tryd.prog.cellsOf 5 = 1 := by kernel_rfl
  have k2 : Tryd.prog.cellsOf 22 = 1 := by kernel_rfl
  have k3 : Tryd.prog.cellsOf 23 = 1 := by kernel_rfl
  have k4 : Tryd.prog.cellsOf 4 = 1 := by kernel_rfl
  have k5 : Tryd.prog.cellsOf 24 = 1 := by kernel_rfl
  have f0 := hfs 0 _ rfl
  have f1 := hfs 1 _ rfl
  have f2 := hfs 2 _ rfl
  have f3 := hfs 3 _ rfl
  have f4 := hfs 4 _ rfl
  have f5 := hfs 5 _ rfl
  have f6 := hfs 6 _ rfl
  have f7 := hfs 7 _ rfl
  have f8 := hfs 8 _ rfl
  simp [Value.cells, k1, k2, k3, k4, k5] at f0 f1 f2 f3 f4 f5 f6 f7 f8
  obtain ⟨tos, e0, _, w0⟩ := DataW.trod_int Tryd.underlying5 f0
  obtain ⟨id, e1, _, w1⟩ := DataW.trod_int Tryd.underlying22 f1
  obtain ⟨keep, e2, _⟩ := DataW.trod_bool Tryd.underlying4 f2
  obtain ⟨ttl, e3, _, w3⟩ := DataW.trod_int Tryd.underlying5 f3
  obtain ⟨proto, e4, _, w4⟩ := DataW.trod_int Tryd.underlying5 f4
  obtain ⟨src, e5, _, w5⟩ := DataW.trod_int Tryd.underlying23 f5
  obtain ⟨dst, e6, _, w6⟩ := DataW.trod_int Tryd.underlying23 f6
  obtain ⟨zo, hBo, hIo, hwo⟩ := open_bytes f7
  obtain ⟨zd, hBd, hId, hwd⟩ := open_bytes f8
  simp at e0 e1 e2 e3 e4 e5 e6
  subst e0 e1 e2 e3 e4 e5 e6
  simp only [Prod.mk.injEq] at hx
  refine ⟨tos, id, ttl, proto, src, dst, keep, c7, c8, zo, zd, rfl, ⟨hBo, hBd⟩, ⟨hIo, hId⟩, fun hw => ?_, by simpa [Lit.wf, IntKind.min, IntKind.max, IntKind.signed, IntKind.bits] using w0, by simpa [Lit.wf, IntKind.min, IntKind.max, IntKind.signed, IntKind.bits] using w1, by simpa [Lit.wf, IntKind.min, IntKind.max, IntKind.signed, IntKind.bits] using w3, by simpa [Lit.wf, IntKind.min, IntKind.max, IntKind.signed, IntKind.bits] using w4, by simpa [Lit.wf, IntKind.min, IntKind.max, IntKind.signed, IntKind.bits] using w5, by simpa [Lit.wf, IntKind.min, IntKind.max, IntKind.signed, IntKind.bits] using w6⟩
  rw [hx.1] at hw
  simp only [DataW.weights, Tryd.underlying26, DataW.weightsEach, List.map_cons, List.map_nil, List.all_append, Bool.and_eq_true] at hw
  have h7 := hwo (by simp_all)
  have h8 := hwd (by simp_all)
  omega

/-- A datagram, by value. -/
theorem open_datagram {H : Type} {enc : TypeId × Value → H} {W : World} {r : Reach} {b0 : Nat} {v : Value} {d : DataW H} {p : List MemPlace} (hv : Value.okWide Tryd.prog W r b0 48 v) (h : DataW.Trod enc Tryd.prog W 0 (fun _ => true) true 48 v d p) :
    ∃ (sp dp : Int) (bare : Bool) (sm : Value) (zd : List Int), v = .agg #[.int .u16 sp, .int .u16 dp, .bool bare, sm] ∧ Mt.By zd ∧ Rd W.heap.size W sm zd ∧ ((DataW.weights Tryd.prog 48 d).all (· ≤ reachBytes) = true → zd.length ≤ 140737488351232) ∧
      (0 ≤ sp ∧ sp ≤ 65535) ∧ (0 ≤ dp ∧ dp ≤ 65535) := by
  obtain ⟨cs, rfl, hsz⟩ := okWide_struct Tryd.underlying48 hv
  obtain ⟨c0, c1, c2, c3, rfl⟩ := array4d (hsz.trans (by kernel_rfl))
  obtain ⟨fuel, hf⟩ := h
  obtain ⟨xs, n, _, hx, _, hlen, hfs⟩ := DataW.trod_struct Tryd.underlying48 hf
  obtain ⟨y0, y1, y2, y3, rfl⟩ := list4d hlen
  have k1 : Tryd.prog.cellsOf 22 = 1 := by kernel_rfl
  have k3 : Tryd.prog.cellsOf 4 = 1 := by kernel_rfl
  have k5 : Tryd.prog.cellsOf 24 = 1 := by kernel_rfl
  have f0 := hfs 0 _ rfl
  have f1 := hfs 1 _ rfl
  have f2 := hfs 2 _ rfl
  have f3 := hfs 3 _ rfl
  simp [Value.cells, k1, k3, k5] at f0 f1 f2 f3
  obtain ⟨sp, e0, _, w0⟩ := DataW.trod_int Tryd.underlying22 f0
  obtain ⟨dp, e1, _, w1⟩ := DataW.trod_int Tryd.underlying22 f1
  obtain ⟨bare, e2, _⟩ := DataW.trod_bool Tryd.underlying4 f2
  obtain ⟨zd, hBd, hId, hwd⟩ := open_bytes f3
  simp at e0 e1 e2
  subst e0 e1 e2
  simp only [Prod.mk.injEq] at hx
  refine ⟨sp, dp, bare, c3, zd, rfl, hBd, hId, fun hw => ?_, by simpa [Lit.wf, IntKind.min, IntKind.max, IntKind.signed, IntKind.bits] using w0, by simpa [Lit.wf, IntKind.min, IntKind.max, IntKind.signed, IntKind.bits] using w1⟩
  rw [hx.1] at hw
  simp only [DataW.weights, Tryd.underlying48, DataW.weightsEach, List.map_cons, List.map_nil, List.all_append, Bool.and_eq_true] at hw
  exact hwd (by simp_all)

theorem weightsAll_at {H : Type} (P : Program) (e : TypeId) (f : DataW H → Bool) : ∀ (l : List (DataW H)), (DataW.weightsAll P e l).all (· ≤ reachBytes) = true → ∀ d ∈ l, (d.weights P e).all (· ≤ reachBytes) = true
  | [], _, d, hd => by cases hd
  | x :: r, h, d, hd => by
    simp only [DataW.weightsAll, List.all_append, Bool.and_eq_true] at h
    rcases List.mem_cons.1 hd with rfl | hd
    · exact h.1
    · exact weightsAll_at P e f r h.2 d hd

/-- A field that is a slice of options. -/
theorem open_options {H : Type} {enc : TypeId × Value → H} {W : World} {n : Nat} {c : Value} {y : DataW H × List MemPlace} (h : DataW.trod enc Tryd.prog W 0 (fun _ => true) true n 49 [c] = some y) :
    ∃ os, ByO os ∧ RdO W.heap.size W c os ∧ ((DataW.weights Tryd.prog 49 y.1).all (· ≤ reachBytes) = true → ∀ o ∈ os, o.2.length ≤ 140737488351232) ∧ os.length ≤ 9223372036854775807 := by
  rcases Go.Deep.open_slice_pairs Tryd.underlying49 Tryd.underlying94 (by kernel_rfl) rfl rfl (by kernel_rfl) (by kernel_rfl) h with ⟨hcs, _⟩ | ⟨a, len, cap, m, n', V0, V1, D0, D1, P0, P1, hcs, _, hl, hm, hmm, hx, hall⟩
  · simp at hcs
    subst hcs
    exact ⟨([] : List Opt), (fun o ho => nomatch ho), .inl ⟨none, 0, rfl, rfl, by omega, fun _ => rfl⟩, (fun _ o ho => nomatch ho), by simp⟩
  · simp at hcs
    subst hcs
    rw [if_pos rfl] at hmm
    obtain rfl : cap = m := hmm.symm
    have hm' : cap ≤ 9223372036854775807 := by simpa [maxLen] using hm
    have each : ∀ i, ∃ o : Opt, i < cap → (V0 i = .int .u8 o.1 ∧ (0 ≤ o.1 ∧ o.1 ≤ 255) ∧ Mt.By o.2 ∧ Rd W.heap.size W (V1 i) o.2 ∧ ((DataW.weights Tryd.prog 24 (D1 i)).all (· ≤ reachBytes) = true → o.2.length ≤ 140737488351232)) := by
      intro i
      by_cases hi : i < cap
      · obtain ⟨_, _, g0, g1⟩ := hall i hi
        obtain ⟨k, e0, _, w0⟩ := DataW.trod_int Tryd.underlying5 g0
        obtain ⟨zd, hBd, hId, hwd⟩ := open_bytes g1
        simp at e0
        exact ⟨(k, zd), fun _ => ⟨e0, by simpa [Lit.wf, IntKind.min, IntKind.max, IntKind.signed, IntKind.bits] using w0, hBd, hId, hwd⟩⟩
      · exact ⟨(0, []), fun h => absurd h hi⟩
    obtain ⟨O, hO⟩ := Classical.axiomOfChoice each
    have hget : ∀ j, j < len → ((List.range len).map O)[j]?.getD (0, []) = O j := fun j hj => by simp [hj]
    refine ⟨(List.range len).map O, ?_, ?_, ?_, by simp; omega⟩
    · intro o ho
      obtain ⟨i, hi, rfl⟩ := List.mem_map.1 ho
      have := hO i (by have := List.mem_range.1 hi; omega)
      exact ⟨this.2.1, this.2.2.1⟩
    · by_cases h0 : len = 0
      · subst h0
        exact .inl ⟨_, cap, rfl, rfl, hm', fun h => by cases h⟩
      · obtain ⟨b, off, spot⟩ := a
        have hc := (hall 0 (by omega)).1
        have hspot : spot = none := by simpa [Addr.add] using World.cell?_spot hc
        subst hspot
        refine .inr ⟨b, off, cap, by simp, by intro e; have := congrArg List.length e; simp at this; omega, by simp; omega, hm', ?_, fun j hj => ?_⟩
        · have := World.block_lt_of_cell? W _ hc
          simpa [Addr.add] using this
        · have hj' : j < len := by simpa using hj
          rw [hget j hj']
          obtain ⟨h1, h2, _, _⟩ := hall j (by omega)
          have hOj := hO j (by omega)
          rw [show (⟨b, off, none⟩ : Addr).add (j * 2) = ⟨b, off + j * 2, none⟩ from by unfold Addr.add; split <;> simp_all] at h1
          rw [show (⟨b, off, none⟩ : Addr).add (j * 2 + 1) = ⟨b, off + j * 2 + 1, none⟩ from by unfold Addr.add; split <;> simp_all; omega] at h2
          exact ⟨V1 j, by rw [h1, hOj.1], h2, hOj.2.2.2.1⟩
    · intro hw o ho
      obtain ⟨i, hi, rfl⟩ := List.mem_map.1 ho
      have hi' := List.mem_range.1 hi
      refine (hO i (by omega)).2.2.2.2 ?_
      rw [hx] at hw
      simp only [DataW.weights, Tryd.underlying49, List.all_cons, List.all_append, Bool.and_eq_true] at hw
      have hd := weightsAll_at Tryd.prog 94 (fun _ => true) _ hw.2.1 (.agg [D0 i, D1 i]) (List.mem_map.2 ⟨i, hi, rfl⟩)
      simp only [DataW.weights, Tryd.underlying94, DataW.weightsEach, List.map_cons, List.map_nil, List.all_append, Bool.and_eq_true] at hd
      exact hd.2.1

/-- A segment, by value. -/
theorem open_segment {H : Type} {enc : TypeId × Value → H} {W : World} {r : Reach} {b0 : Nat} {v : Value} {d : DataW H} {p : List MemPlace} (hv : Value.okWide Tryd.prog W r b0 51 v) (h : DataW.Trod enc Tryd.prog W 0 (fun _ => true) true 51 v d p) :
    ∃ (sp dp sq ak fl wn ur : Int) (sO sm : Value) (os : List Opt) (zm : List Int), v = .agg #[.int .u16 sp, .int .u16 dp, .int .u32 sq, .int .u32 ak, .int .u8 fl, .int .u16 wn, .int .u16 ur, sO, sm] ∧
      (ByO os ∧ Mt.By zm) ∧ (RdO W.heap.size W sO os ∧ Rd W.heap.size W sm zm) ∧ ((DataW.weights Tryd.prog 51 d).all (· ≤ reachBytes) = true → (∀ o ∈ os, o.2.length ≤ 140737488351232) ∧ zm.length ≤ 140737488351232) ∧
      (0 ≤ sp ∧ sp ≤ 65535) ∧ (0 ≤ dp ∧ dp ≤ 65535) ∧ (0 ≤ sq ∧ sq ≤ 4294967295) ∧ (0 ≤ ak ∧ ak ≤ 4294967295) ∧ (0 ≤ fl ∧ fl ≤ 255) ∧ (0 ≤ wn ∧ wn ≤ 65535) ∧ (0 ≤ ur ∧ ur ≤ 65535) := by
  obtain ⟨cs, rfl, hsz⟩ := okWide_struct Tryd.underlying51 hv
  obtain ⟨c0, c1, c2, c3, c4, c5, c6, c7, c8, rfl⟩ := array9 (hsz.trans (by kernel_rfl))
  obtain ⟨fuel, hf⟩ := h
  obtain ⟨xs, n, _, hx, _, hlen, hfs⟩ := DataW.trod_struct Tryd.underlying51 hf
  obtain ⟨y0, y1, y2, y3, y4, y5, y6, y7, y8, rfl⟩ := list9 hlen
  have k1 : Tryd.prog.cellsOf 5 = 1 := by kernel_rfl
  have k2 : Tryd.prog.cellsOf 22 = 1 := by kernel_rfl
  have k3 : Tryd.prog.cellsOf 23 = 1 := by kernel_rfl
  have k4 : Tryd.prog.cellsOf 49 = 1 := by kernel_rfl
  have k5 : Tryd.prog.cellsOf 24 = 1 := by kernel_rfl
  have f0 := hfs 0 _ rfl
  have f1 := hfs 1 _ rfl
  have f2 := hfs 2 _ rfl
  have f3 := hfs 3 _ rfl
  have f4 := hfs 4 _ rfl
  have f5 := hfs 5 _ rfl
  have f6 := hfs 6 _ rfl
  have f7 := hfs 7 _ rfl
  have f8 := hfs 8 _ rfl
  simp [Value.cells, k1, k2, k3, k4, k5] at f0 f1 f2 f3 f4 f5 f6 f7 f8
  obtain ⟨sp, e0, _, w0⟩ := DataW.trod_int Tryd.underlying22 f0
  obtain ⟨dp, e1, _, w1⟩ := DataW.trod_int Tryd.underlying22 f1
  obtain ⟨sq, e2, _, w2⟩ := DataW.trod_int Tryd.underlying23 f2
  obtain ⟨ak, e3, _, w3⟩ := DataW.trod_int Tryd.underlying23 f3
  obtain ⟨fl, e4, _, w4⟩ := DataW.trod_int Tryd.underlying5 f4
  obtain ⟨wn, e5, _, w5⟩ := DataW.trod_int Tryd.underlying22 f5
  obtain ⟨ur, e6, _, w6⟩ := DataW.trod_int Tryd.underlying22 f6
  obtain ⟨os, hBo, hIo, hwo, _⟩ := open_options f7
  obtain ⟨zm, hBd, hId, hwd⟩ := open_bytes f8
  simp at e0 e1 e2 e3 e4 e5 e6
  subst e0 e1 e2 e3 e4 e5 e6
  simp only [Prod.mk.injEq] at hx
  refine ⟨sp, dp, sq, ak, fl, wn, ur, c7, c8, os, zm, rfl, ⟨hBo, hBd⟩, ⟨hIo, hId⟩, fun hw => ?_, by simpa [Lit.wf, IntKind.min, IntKind.max, IntKind.signed, IntKind.bits] using w0, by simpa [Lit.wf, IntKind.min, IntKind.max, IntKind.signed, IntKind.bits] using w1, by simpa [Lit.wf, IntKind.min, IntKind.max, IntKind.signed, IntKind.bits] using w2, by simpa [Lit.wf, IntKind.min, IntKind.max, IntKind.signed, IntKind.bits] using w3, by simpa [Lit.wf, IntKind.min, IntKind.max, IntKind.signed, IntKind.bits] using w4, by simpa [Lit.wf, IntKind.min, IntKind.max, IntKind.signed, IntKind.bits] using w5, by simpa [Lit.wf, IntKind.min, IntKind.max, IntKind.signed, IntKind.bits] using w6⟩
  rw [hx.1] at hw
  simp only [DataW.weights, Tryd.underlying51, DataW.weightsEach, List.map_cons, List.map_nil, List.all_append, Bool.and_eq_true] at hw
  exact ⟨hwo (by simp_all), hwd (by simp_all)⟩
end Go.Proofs.YtdabhbadcbnkhaaDoor
