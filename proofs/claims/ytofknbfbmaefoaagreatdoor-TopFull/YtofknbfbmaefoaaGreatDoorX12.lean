import Derived.Test.YtofknbfbmaefoaaGreatDoorX15
import Derived.Test.YtofknbfbmaefoaaGreatDoorX19
import Derived.Test.YtofknbfbmaefoaaGreatDoorX13
import Derived.Test.YtofknbfbmaefoaaGreatDoorX16
import Derived.Deep.OwnRows
namespace Go.Proofs.YtofknbfbmaefoaaGreatDoor
open Go.RowKit Go.Shelf
set_option maxRecDepth 100000
set_option linter.unusedVariables false
set_option linter.unusedSimpArgs false
def Ow4 (base : Nat) (W : World) (v : Value) (ns : List Int) : Prop :=
 (v = .slice none 0 0 ∧ ns = []) ∨ ∃ g, v = .slice (some ⟨g, 0, none⟩) ns.length ns.length ∧ base ≤ g ∧ W.heap[g]? = some (.cells (ns.map (Value.int .u32)).toArray 33 (0, 0))
theorem Ow4.later {base : Nat} {A B : World} {v : Value} {ns : List Int} (h : Ow4 base A v ns) (l : Later A B) : Ow4 base B v ns := by
 rcases h with h | ⟨g, h1, h2, h3⟩
 ·exact .inl h
 ·exact .inr ⟨g, h1, h2, later_keep l h3⟩
theorem Ow4.mono {base base' : Nat} {A : World} {v : Value} {ns : List Int} (h : Ow4 base A v ns) (hb : base' ≤ base) : Ow4 base' A v ns := by
 rcases h with h | ⟨g, h1, h2, h3⟩
 ·exact .inl h
 ·exact .inr ⟨g, h1, by omega, h3⟩
theorem Ow4.slice {base : Nat} {A : World} {v : Value} {ns : List Int} (h : Ow4 base A v ns) : ∃ a, v = .slice a ns.length ns.length := by
 rcases h with ⟨rfl, rfl⟩ | ⟨g, rfl, _⟩
 ·exact ⟨none, rfl⟩
 ·exact ⟨_, rfl⟩
theorem Ow4.cell {base : Nat} {A : World} {a : Option Addr} {l c : Nat} {ns : List Int} (h : Ow4 base A (.slice a l c) ns) (hne : 0 < ns.length) : ∃ g, a = some ⟨g, 0, none⟩ ∧ l = ns.length ∧ c = ns.length ∧ base ≤ g ∧ ∀ j, j < ns.length → A.cell? ⟨g, j, none⟩ = some (.int .u32 (ns[j]?.getD 0)) := by
 rcases h with ⟨_, rfl⟩ | ⟨g, e, h2, h3⟩
 ·simp at hne
 ·cases e
  refine ⟨g, rfl, rfl, rfl, h2, fun j hj => ?_⟩
  rw [block_cell h3 j]
  simp [hj]
theorem OwO.kept {base : Nat} {A B : World} {v : Value} {os : List Opt} (h : OwO base A v os) (hk : ∀ (k : Nat) (o : Obj), base ≤ k → A.heap[k]? = some o → B.heap[k]? = some o) : OwO base B v os := by
 obtain ⟨ss, h1, h2, h3⟩ := h
 refine ⟨ss, h1, ⟨h2.1, h2.2.imp id ?_⟩, fun j hj => ?_⟩
 ·rintro ⟨g, cap, cur, e1, e2, e3, r⟩
  exact ⟨g, cap, cur, e1, e2, hk g _ e2 e3, r⟩
 ·rcases h3 j hj with h | ⟨g, cp, cur, e1, e2, e3, e4, e5, e6, e7⟩
  ·exact .inl h
  ·exact .inr ⟨g, cp, cur, e1, e2, e3, e4, e5, hk g _ e2 e6, e7⟩
theorem Ow.other {base mb : Nat} {W W' : World} {v : Value} {zs : List Int} {cur : Array Value} {t : TypeId} (h : Ow base W v zs) (hm : W.heap[mb]? = some (.cells cur t (0, 0))) (ht : t ≠ 5) (hb : But (fun b => b = mb) W W') : Ow base W' v zs := by
 rcases h with h | ⟨g, cap, c, h1, h2, h3, h4, h5, h6, h7⟩
 ·exact .inl h
 ·refine .inr ⟨g, cap, c, h1, h2, h3, h4, h5, (hb.block g (bl9 h6) (fun e => ?_)).trans h6, h7⟩
  subst e
  rw [hm] at h6
  simp at h6
  exact ht h6.2
end Go.Proofs.YtofknbfbmaefoaaGreatDoor
