/- What the bound on the arguments' bulk says of a packet's bytes. -/
import Derived.Test.YtghpakfjpdifaaaGreatDoorRows
import Derived.Test.YtghpakfjpdifaaaGreatDoorOp2
namespace Go.Proofs.YtghpakfjpdifaaaGreatDoor
open Go.ChangeShapes Go.WideShapes Go.ChangeAt Go.RowKit Go.Joins
set_option maxRecDepth 100000
set_option linter.unusedVariables false
set_option linter.unusedSimpArgs false

theorem bulk_one {H : Type} (d : DataW H) : 1 ≤ Rows.uptoBulk d := by
 cases d with
 | lit l => cases l <;> simp [Rows.uptoBulk]
 | nil => simp [Rows.uptoBulk]
 | ptr d => simp [Rows.uptoBulk]
 | slice elems spare => simp [Rows.uptoBulk]
 | agg parts => simp [Rows.uptoBulk]
 | iface t d => simp [Rows.uptoBulk]
 | map entries => simp [Rows.uptoBulk]
 | held h => simp [Rows.uptoBulk]
theorem bulk_length {H : Type} (l : List (DataW H)) : l.length ≤ Rows.uptoBulkAll l := by
 induction l with
 | nil => simp
 | cons x r ih => have := bulk_one x; simp only [Rows.uptoBulkAll, List.length_cons]; omega
theorem bulk_small {H : Type} {l : List (DataW H)} (hk : Rows.uptoSmall H l = true) : Rows.uptoBulkAll l ≤ 1048576 := of_decide_eq_true hk

/-- A slice of bytes is no longer than its bulk. -/
theorem bytes_bulk {H : Type} {enc : TypeId × Value → H} {W : World} {n : Nat} {a : Option Addr} {l cp : Nat} {y : DataW H × List MemPlace} (h : DataW.trod enc Tryz.prog W 0 (fun _ => true) true n 24 [.slice a l cp] = some y) : l ≤ Rows.uptoBulk y.1 := by
 rcases open_ints Tryz.underlying24 Tryz.underlying5 (by kernel_rfl) h with ⟨hcs, _⟩ | ⟨x, l', c', zs, hcs, _, hl, hm, hz, hx, hcell, hwz⟩
 ·simp at hcs
  obtain ⟨rfl, rfl, rfl⟩ := hcs
  omega
 ·simp at hcs
  obtain ⟨rfl, rfl, rfl⟩ := hcs
  rw [if_pos rfl] at hz
  subst hx
  simp only [Rows.uptoBulk]
  refine Nat.le_trans ?_ (Nat.le_trans (Nat.add_le_add (bulk_length _) (bulk_length _)) (Nat.le_succ _))
  simp [lits]
  omega

/-- A packet's bytes are no longer than its bulk. -/
theorem packet_bulk {H : Type} {enc : TypeId × Value → H} {W : World} {d : DataW H} {p : List MemPlace} {c0 c1 c2 c3 c4 c5 c6 : Value} {ao ad : Option Addr} {lo co ld cd : Nat} (h : DataW.Trod enc Tryz.prog W 0 (fun _ => true) true 26 (.agg #[c0, c1, c2, c3, c4, c5, c6, .slice ao lo co, .slice ad ld cd]) d p) : lo ≤ Rows.uptoBulk d ∧ ld ≤ Rows.uptoBulk d := by
 obtain ⟨fuel, hf⟩ := h
 obtain ⟨xs, n, _, hx, _, hlen, hfs⟩ := DataW.trod_struct Tryz.underlying26 hf
 obtain ⟨y0, y1, y2, y3, y4, y5, y6, y7, y8, rfl⟩ := list9 hlen
 have k5 : Tryz.prog.cellsOf 24 = 1 := by kernel_rfl
 have k1 : Tryz.prog.cellsOf 5 = 1 := by kernel_rfl
 have k2 : Tryz.prog.cellsOf 22 = 1 := by kernel_rfl
 have k3 : Tryz.prog.cellsOf 23 = 1 := by kernel_rfl
 have k4 : Tryz.prog.cellsOf 4 = 1 := by kernel_rfl
 have f7 := hfs 7 _ rfl
 have f8 := hfs 8 _ rfl
 simp [Value.cells, k1, k2, k3, k4, k5] at f7 f8
 have b7 := bytes_bulk f7
 have b8 := bytes_bulk f8
 simp only [Prod.mk.injEq] at hx
 rw [hx.1]
 simp only [Rows.uptoBulk, List.map_cons, List.map_nil, Rows.uptoBulkAll]
 omega
end Go.Proofs.YtghpakfjpdifaaaGreatDoor
