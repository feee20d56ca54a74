/- How an argument that is a packet reads. -/
import Derived.ProofKit
import Derived.OpenShut
import Derived.SizedLaws
import Derived.Lib.SmallJoins
import Derived.Test.YtghpakfjpdifaaaGreatDoorW4
namespace Go.Proofs.YtghpakfjpdifaaaGreatDoor
open Go.ChangeShapes Go.WideShapes Go.ChangeAt Go.RowKit Go.Joins
set_option maxRecDepth 100000

theorem array9 {α : Type} {cs : Array α} (h : cs.size = 9) : ∃ c0 c1 c2 c3 c4 c5 c6 c7 c8, cs = #[c0, c1, c2, c3, c4, c5, c6, c7, c8] := by
 obtain ⟨l⟩ := cs
 match l, h with
 | [c0, c1, c2, c3, c4, c5, c6, c7, c8], _ => exact ⟨c0, c1, c2, c3, c4, c5, c6, c7, c8, rfl⟩
theorem list9 {α : Type} {l : List α} (h : l.length = 9) : ∃ c0 c1 c2 c3 c4 c5 c6 c7 c8, l = [c0, c1, c2, c3, c4, c5, c6, c7, c8] := by
 match l, h with
 | [c0, c1, c2, c3, c4, c5, c6, c7, c8], _ => exact ⟨c0, c1, c2, c3, c4, c5, c6, c7, c8, rfl⟩

/-- A field that is a slice of bytes. -/
theorem open_bytes {H : Type} {enc : TypeId × Value → H} {W : World} {n : Nat} {c : Value} {y : DataW H × List MemPlace} (h : DataW.trod enc Tryz.prog W 0 (fun _ => true) true n 24 [c] = some y) :
  ∃ zs, Mt.By zs ∧ Rd W.heap.size W c zs ∧ ((DataW.weights Tryz.prog 24 y.1).all (· ≤ reachBytes) = true → zs.length ≤ 140737488351232) := by
 obtain ⟨a, l, cp, hc⟩ := slice_form Tryz.underlying24 h
 cases hc
 rcases open_ints Tryz.underlying24 Tryz.underlying5 (by kernel_rfl) h with ⟨hcs, _⟩ | ⟨x, l', c', zs, hcs, _, hl, hm, hz, hx, hcell, hwz⟩
 ·simp at hcs
  obtain ⟨rfl, rfl, rfl⟩ := hcs
  exact ⟨[], Mt.By.nil, .inl ⟨_, _, rfl, rfl, by omega, fun _ => rfl⟩, fun _ => by simp⟩
 ·simp at hcs
  obtain ⟨rfl, rfl, rfl⟩ := hcs
  rw [if_pos rfl] at hz
  obtain ⟨ys, hB, hI⟩ := rd_of_row x l cp zs hl (by simpa [maxLen] using hm) hz hcell hwz W.heap.size (fun h => row_block x zs hcell (by omega))
  refine ⟨ys, hB, hI, fun hw => ?_⟩
  obtain ⟨a', cap', e', h1, _⟩ := hI.slice
  cases e'
  subst hx
  have hb : Tryz.prog.bytesOf 5 = 1 := by kernel_rfl
  simp only [DataW.weights, Tryz.underlying24, List.all_cons, Bool.and_eq_true, hb, reachBytes] at hw
  have h2 := hw.1
  simp [lits] at h2
  omega

/-- A packet, by value. -/
theorem open_packet {H : Type} {enc : TypeId × Value → H} {W : World} {r : Reach} {b0 : Nat} {v : Value} {d : DataW H} {p : List MemPlace} (hv : Value.okWide Tryz.prog W r b0 26 v) (h : DataW.Trod enc Tryz.prog W 0 (fun _ => true) true 26 v d p) :
  ∃ (tos id ttl proto src dst : Int) (keep : Bool) (so sd : Value) (zo zd : List Int), v = .agg #[.int .u8 tos, .int .u16 id, .bool keep, .int .u8 ttl, .int .u8 proto, .int .u32 src, .int .u32 dst, so, sd] ∧
   (Mt.By zo ∧ Mt.By zd) ∧ (Rd W.heap.size W so zo ∧ Rd W.heap.size W sd zd) ∧ ((DataW.weights Tryz.prog 26 d).all (· ≤ reachBytes) = true → zo.length ≤ 140737488355328 ∧ zd.length ≤ 140737488355328) ∧
   (0 ≤ tos ∧ tos ≤ 255) ∧ (0 ≤ id ∧ id ≤ 65535) ∧ (0 ≤ ttl ∧ ttl ≤ 255) ∧ (0 ≤ proto ∧ proto ≤ 255) ∧ (0 ≤ src ∧ src ≤ 4294967295) ∧ (0 ≤ dst ∧ dst ≤ 4294967295) := by
 obtain ⟨cs, rfl, hsz⟩ := okWide_struct Tryz.underlying26 hv
 obtain ⟨c0, c1, c2, c3, c4, c5, c6, c7, c8, rfl⟩ := array9 (hsz.trans (by kernel_rfl))
 obtain ⟨fuel, hf⟩ := h
 obtain ⟨xs, n, _, hx, _, hlen, hfs⟩ := DataW.trod_struct Tryz.underlying26 hf
 obtain ⟨y0, y1, y2, y3, y4, y5, y6, y7, y8, rfl⟩ := list9 hlen
 have k1 : Tryz.prog.cellsOf 5 = 1 := by kernel_rfl
 have k2 : Tryz.prog.cellsOf 22 = 1 := by kernel_rfl
 have k3 : Tryz.prog.cellsOf 23 = 1 := by kernel_rfl
 have k4 : Tryz.prog.cellsOf 4 = 1 := by kernel_rfl
 have k5 : Tryz.prog.cellsOf 24 = 1 := by kernel_rfl
 have f0 := hfs 0 _ rfl
 have f1 := hfs 1 _ rfl
 have f2 := hfs 2 _ rfl
 have f3 := hfs 3 _ rfl
 have f4 := hfs 4 _ rfl
 have f5 := hfs 5 _ rfl
 have f6 := hfs 6 _ rfl
 have f7 := hfs 7 _ rfl
 have f8 := hfs 8 _ rfl
 simp [Value.cells, k1, k2, k3, k4, k5] at f0 f1 f2 f3 f4 f5 f6 f7 f8
 obtain ⟨tos, e0, _, w0⟩ := DataW.trod_int Tryz.underlying5 f0
 obtain ⟨id, e1, _, w1⟩ := DataW.trod_int Tryz.underlying22 f1
 obtain ⟨keep, e2, _⟩ := DataW.trod_bool Tryz.underlying4 f2
 obtain ⟨ttl, e3, _, w3⟩ := DataW.trod_int Tryz.underlying5 f3
 obtain ⟨proto, e4, _, w4⟩ := DataW.trod_int Tryz.underlying5 f4
 obtain ⟨src, e5, _, w5⟩ := DataW.trod_int Tryz.underlying23 f5
 obtain ⟨dst, e6, _, w6⟩ := DataW.trod_int Tryz.underlying23 f6
 obtain ⟨zo, hBo, hIo, hwo⟩ := open_bytes f7
 obtain ⟨zd, hBd, hId, hwd⟩ := open_bytes f8
 simp at e0 e1 e2 e3 e4 e5 e6
 subst e0 e1 e2 e3 e4 e5 e6
 simp only [Prod.mk.injEq] at hx
 refine ⟨tos, id, ttl, proto, src, dst, keep, c7, c8, zo, zd, rfl, ⟨hBo, hBd⟩, ⟨hIo, hId⟩, fun hw => ?_, by simpa [Lit.wf, IntKind.min, IntKind.max, IntKind.signed, IntKind.bits] using w0, by simpa [Lit.wf, IntKind.min, IntKind.max, IntKind.signed, IntKind.bits] using w1, by simpa [Lit.wf, IntKind.min, IntKind.max, IntKind.signed, IntKind.bits] using w3, by simpa [Lit.wf, IntKind.min, IntKind.max, IntKind.signed, IntKind.bits] using w4, by simpa [Lit.wf, IntKind.min, IntKind.max, IntKind.signed, IntKind.bits] using w5, by simpa [Lit.wf, IntKind.min, IntKind.max, IntKind.signed, IntKind.bits] using w6⟩
 rw [hx.1] at hw
 simp only [DataW.weights, Tryz.underlying26, DataW.weightsEach, List.map_cons, List.map_nil, List.all_append, Bool.and_eq_true] at hw
 have h7 := hwo (by simp_all)
 have h8 := hwd (by simp_all)
 omega
end Go.Proofs.YtghpakfjpdifaaaGreatDoor
