/- Package ctrl: bytes of numbers, parts joined, bytes.Clone, the packet with bytes in it. -/
import Derived.Test.YtifdocjagnhncaaDoorV5
import Derived.Test.YtifdocjagnhncaaDoorRk
namespace Go.Proofs.YtifdocjagnhncaaDoor
open Go.RowKit Go.Shelf
set_option maxRecDepth 100000
set_option linter.unusedVariables false
set_option linter.unusedSimpArgs false

theorem make2 (w : World) : (Instr.makeSlice 22 (.int .i64 2) (.int .i64 2)).run Tryd.prog w = .ok (.slice (some ⟨w.heap.size, 0, none⟩) 2 2) (w.alloc (.cells #[.int .u8 0, .int .u8 0] 5)) := by kernel_rfl

theorem make4 (w : World) : (Instr.makeSlice 22 (.int .i64 4) (.int .i64 4)).run Tryd.prog w = .ok (.slice (some ⟨w.heap.size, 0, none⟩) 4 4) (w.alloc (.cells #[.int .u8 0, .int .u8 0, .int .u8 0, .int .u8 0] 5)) := by kernel_rfl

theorem eql_nil (w : World) : (binOp .eql 22 (.slice none 0 0) (.slice none 0 0)).run Tryd.prog w = .ok (.bool true) w := by kernel_rfl

theorem eql_some (w : World) (ad : Addr) (n c : Nat) : (binOp .eql 22 (.slice (some ad) n c) (.slice none 0 0)).run Tryd.prog w = .ok (.bool false) w := by kernel_rfl

set_option maxHeartbeats 1000000 in
/-- bytes.Clone. -/
theorem cloneb_any (sv : Value) (zs : List Int) (w : World) (hl : zs.length ≤ 140737488355328) (hI : Rd w.heap.size w sv zs) :
    Calls Tryd.prog 58 #[sv] w fun e w' => ∃ a cap, e = .returned (.slice a zs.length cap) ∧ Ow w.heap.size w' (.slice a zs.length cap) zs ∧ Below w.heap.size w w' := by
  obtain ⟨i0, hi, hz0, hz1, hz2⟩ := info_parts info_u8
  have hb0 : Below w.heap.size w (w.alloc (.cells #[] 5)) := (Below.refl _ w).alloc (Nat.le_refl _) _
  have hR1 := hI.below hb0
  obtain ⟨a, cap, rfl, hl1, hm1⟩ := hI.slice
  cases a with
  | none =>
    obtain ⟨rfl, rfl⟩ : zs = [] ∧ cap = 0 := by
      rcases hI with ⟨a, cap', e, hz, _, hn⟩ | ⟨_, _, _, e, _⟩
      · have e1 := e
        simp at e1
        obtain ⟨rfl, _, rfl⟩ := e1
        exact ⟨hz, hn rfl⟩
      · simp at e
    have hq := eql_nil w
    go_enter Tryd.func58, Tryd.ntmps58
    go_wp2
    go_ret
    exact ⟨none, 0, rfl, .inl ⟨rfl, rfl⟩, Below.refl _ _⟩
  | some ad =>
    have hq := eql_some w ad zs.length cap
    go_enter Tryd.func58, Tryd.ntmps58
    go_wp2_with (at_builtin; refine wpList_app _ rfl (.tmp 5) (.tmp 6) 22 rfl w.heap.size 5 i0 Tryd.underlying22 hi hz0 hz1 hz2 _ [] rfl (own_empty w _) w.heap.size _ zs rfl hR1 (by simp; omega) (by simp) ?_; intro v0 w0 hown0 hg0; have hbw0 := below_app hb0 (own_empty w _) hg0 (Nat.le_refl _) hb0.size; clear hg0; have hO0 := Ow.of_row hown0; clear hown0; simp only [List.nil_append] at hO0; obtain ⟨a0, cap0, rfl, hp0, hm0⟩ := hO0.slice)
    go_ret
    exact ⟨a0, cap0, rfl, hO0, hbw0⟩

/-- Slices that read as bytes, one by one. -/
def Rds (n₀ : Nat) (W : World) : List Value → List (List Int) → Prop
  | [], [] => True
  | v :: vs, z :: zs => Rd n₀ W v z ∧ Rds n₀ W vs zs
  | _, _ => False
theorem Rds.length {n₀ : Nat} {W : World} : ∀ {vs : List Value} {zs : List (List Int)}, Rds n₀ W vs zs → vs.length = zs.length
  | [], [], _ => rfl
  | _ :: _, _ :: _, h => by simp [h.2.length]
  | [], _ :: _, h => h.elim
  | _ :: _, [], h => h.elim
theorem Rds.at {n₀ : Nat} {W : World} : ∀ {vs : List Value} {zs : List (List Int)}, Rds n₀ W vs zs → ∀ j, j < vs.length → Rd n₀ W (vs[j]?.getD undef) (zs[j]?.getD [])
  | _ :: _, _ :: _, h, 0, _ => h.1
  | _ :: _, _ :: _, h, j + 1, hj => by simpa using h.2.at j (by simpa using hj)
  | [], _, _, _, hj => by simp at hj
  | _ :: _, [], h, _, _ => h.elim
theorem rows_of {W : World} {pb : Nat} {t : TypeId} {l : List Value} (h : W.heap[pb]? = some (.cells l.toArray t (0, 0))) : ∀ j, j < l.length → W.cell? ⟨pb, j, none⟩ = some (l[j]?.getD undef) := by
  intro j hj
  rw [block_cell h]
  simp [hj]

theorem heap_sets {W : World} {n : Nat} {t : TypeId} (v0 v1 v2 v3 v4 v5 v6 v7 v8 x4 x7 x8 : Value) (h : W.heap[n]? = some (.cells #[v0, v1, v2, v3, v4, v5, v6, v7, v8] t (0, 0))) :
    (((W.setCell ⟨n, 4, none⟩ x4).setCell ⟨n, 7, none⟩ x7).setCell ⟨n, 8, none⟩ x8).heap[n]? = some (.cells #[v0, v1, v2, v3, x4, v5, v6, x7, x8] t (0, 0)) := heap_set1 (heap_set1 (heap_set1 h 4 x4) 7 x7) 8 x8

/-- A packet's cells of zeros. -/
abbrev zcc : List Value := [.int .u8 0, .int .u16 0, .bool false, .int .u8 0, .int .u8 0, .int .u32 0, .int .u32 0, .slice none 0 0, .slice none 0 0]

end Go.Proofs.YtifdocjagnhncaaDoor