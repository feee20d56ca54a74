/- Package ctrl: bytes of numbers, parts joined, bytes.Clone, the packet with bytes in it. -/
import Derived.Test.YtohflohdbkamnaaGreatDoorV5
import Derived.Test.YtohflohdbkamnaaGreatDoorRk
namespace Go.Proofs.YtohflohdbkamnaaGreatDoor
open Go.RowKit Go.Shelf
set_option maxRecDepth 100000
set_option linter.unusedVariables false
set_option linter.unusedSimpArgs false

theorem eql_nil (w : World) : (binOp .eql 23 (.slice none 0 0) (.slice none 0 0)).run Tryz.prog w = .ok (.bool true) w := by kernel_rfl

theorem eql_some (w : World) (ad : Addr) (n c : Nat) : (binOp .eql 23 (.slice (some ad) n c) (.slice none 0 0)).run Tryz.prog w = .ok (.bool false) w := by kernel_rfl

set_option maxHeartbeats 1000000 in
/-- bytes.Clone. -/
theorem cloneb_any (sv : Value) (zs : List Int) (w : World) (hl : zs.length ≤ 140737488355328) (hI : Rd w.heap.size w sv zs) :
    Calls Tryz.prog 135 #[sv] w fun e w' => ∃ a cap, e = .returned (.slice a zs.length cap) ∧ Ow w.heap.size w' (.slice a zs.length cap) zs ∧ Below w.heap.size w w' := by
  obtain ⟨i0, hi, hz0, hz1, hz2⟩ := info_parts info_u8
  have hb0 : Below w.heap.size w (w.alloc (.cells #[] 5)) := (Below.refl _ w).alloc (Nat.le_refl _) _
  have hR1 := hI.below hb0
  obtain ⟨a, cap, rfl, hl1, hm1⟩ := hI.slice
  cases a with
  | none =>
    obtain ⟨rfl, rfl⟩ : zs = [] ∧ cap = 0 := by
      rcases hI with ⟨a, cap', e, hz, _, hn⟩ | ⟨_, _, _, e, _⟩
      · have e1 := e
        simp at e1
        obtain ⟨rfl, _, rfl⟩ := e1
        exact ⟨hz, hn rfl⟩
      · simp at e
    have hq := eql_nil w
    go_enter Tryz.func135, Tryz.ntmps135
    go_wp2
    go_ret
    exact ⟨none, 0, rfl, .inl ⟨rfl, rfl⟩, Below.refl _ _⟩
  | some ad =>
    have hq := eql_some w ad zs.length cap
    go_enter Tryz.func135, Tryz.ntmps135
    go_wp2_with (at_builtin; refine wpList_app _ rfl (.tmp 5) (.tmp 6) 23 rfl w.heap.size 5 i0 Tryz.underlying23 hi hz0 hz1 hz2 _ [] rfl (own_empty w _) w.heap.size _ zs rfl hR1 (by simp; omega) (by simp) ?_; intro v0 w0 hown0 hg0; have hbw0 := below_app hb0 (own_empty w _) hg0 (Nat.le_refl _) hb0.size; clear hg0; have hO0 := Ow.of_row hown0; clear hown0; simp only [List.nil_append] at hO0; obtain ⟨a0, cap0, rfl, hp0, hm0⟩ := hO0.slice)
    go_ret
    exact ⟨a0, cap0, rfl, hO0, hbw0⟩

set_option maxHeartbeats 2000000 in
/-- Slices that read as bytes, one by one. -/
def Rds (n₀ : Nat) (W : World) : List Value → List (List Int) → Prop
  | [], [] => True
  | v :: vs, z :: zs => Rd n₀ W v z ∧ Rds n₀ W vs zs
  | _, _ => False
theorem Rds.length {n₀ : Nat} {W : World} : ∀ {vs : List Value} {zs : List (List Int)}, Rds n₀ W vs zs → vs.length = zs.length
  | [], [], _ => rfl
  | _ :: _, _ :: _, h => by simp [h.2.length]
  | [], _ :: _, h => h.elim
  | _ :: _, [], h => h.elim
theorem Rds.at {n₀ : Nat} {W : World} : ∀ {vs : List Value} {zs : List (List Int)}, Rds n₀ W vs zs → ∀ j, j < vs.length → Rd n₀ W (vs[j]?.getD undef) (zs[j]?.getD [])
  | _ :: _, _ :: _, h, 0, _ => h.1
  | _ :: _, _ :: _, h, j + 1, hj => by simpa using h.2.at j (by simpa using hj)
  | [], _, _, _, hj => by simp at hj
  | _ :: _, [], h, _, _ => h.elim
end Go.Proofs.YtohflohdbkamnaaGreatDoor
