/- Package pool: hasPair; the pairs of a set, one after the other. -/
import Derived.Test.YtfompbpllndmfaaDoorPJ
namespace Go.Proofs.YtfompbpllndmfaaDoor
open Go.RowKit Go.Shelf
set_option maxRecDepth 100000
attribute [local go_sem] Oper.semAt_some
set_option linter.unusedVariables false
set_option linter.unusedSimpArgs false

/-- Is an even number there with the next? -/
def prs (ws : Nat → Nat) (n : Nat) : Bool := decide (n % 2 = 0) && (fr ws n && fr ws (n + 1))

set_option maxHeartbeats 2000000 in
theorem hasPair_any (base b : Nat) (low high : Int) (ws : Nat → Nat) (n : Nat) (w : World) (hT : PB base w b low high ws) (hn : n < 65536) :
    Calls Tryd.prog 25 #[.pointer (some ⟨b, 2, none⟩), .int .u16 (n : Int)] w fun e w' => e = .returned (.bool (prs ws n)) ∧ Later w w' := by
  by_cases h2 : n % 2 = 0
  · have hn1 : n + 1 < 65536 := by omega
    have h2' : (n : Int) % 2 = 0 := by omega
    have hn1' : (n : Int) + 1 < 65536 := by omega
    have HH := hide (has_any base b low high ws n w hT hn)
    cases hf : fr ws n with
    | false =>
      have HV : Hid (prs ws n = false) := by show _ = _; unfold prs; simp [hf]
      rw [hf] at HH
      clear hf h2
      go_enter Tryd.func25, Tryd.ntmps25
      go_wp2_with fail
      refine HH.out.mono ?_
      rintro e w1 ⟨rfl, l1⟩
      go_wp2_with fail
      go_ret
      exact ⟨by rw [HV.out]; rfl, l1⟩
    | true =>
      have HV : Hid (prs ws n = fr ws (n + 1)) := by show _ = _; unfold prs; simp [hf, h2]
      rw [hf] at HH
      have HH2 := hide (fun W (h : Later w W) => has_any base b low high ws (n + 1) W (hT.later h) hn1)
      rw [show ((n + 1 : Nat) : Int) = (n : Int) + 1 from by omega] at HH2
      generalize fr ws (n + 1) = q at *
      clear hf h2
      go_enter Tryd.func25, Tryd.ntmps25
      go_wp2_with fail
      refine HH.out.mono ?_
      rintro e w1 ⟨rfl, l1⟩
      go_wp2_with fail
      refine (HH2.out w1 l1).mono ?_
      rintro e w2 ⟨rfl, l2⟩
      have L2 := l1.trans l2
      go_wp2_with fail
      go_ret
      exact ⟨by rw [HV.out]; rfl, L2⟩
  · have h2' : ¬ (n : Int) % 2 = 0 := by omega
    have HV : Hid (prs ws n = false) := by show _ = _; unfold prs; simp [h2]
    clear h2
    go_enter Tryd.func25, Tryd.ntmps25
    go_wp2_with fail
    go_ret
    exact ⟨by rw [HV.out]; rfl, Later.refl _⟩

/-- What lies below stays, and so do the boxes of sets and of functions. -/
def KY (n₀ : Nat) (A C : World) : Prop := Below n₀ A C ∧ ∀ (k : Nat) (cur : Array Value) (t : TypeId) (f : Nat × Nat), A.heap[k]? = some (.cells cur t f) → t = 62 ∨ t = 32 → C.heap[k]? = some (.cells cur t f)
theorem KY.refl (n₀ : Nat) (A : World) : KY n₀ A A := ⟨Below.refl _ _, fun k cur t f h _ => h⟩
theorem KY.trans {n₀ : Nat} {A C D : World} (h : KY n₀ A C) (k : KY n₀ C D) : KY n₀ A D := ⟨h.1.trans k.1, fun i cur t f hi ht => k.2 i cur t f (h.2 i cur t f hi ht) ht⟩
theorem KY.of {n₀ : Nat} {A C : World} (l : Later A C) (h : n₀ ≤ A.heap.size) : KY n₀ A C := ⟨Below.mono l h, fun k cur t f hk _ => later_keep l hk⟩
theorem KY.put {n₀ m : Nat} (hn : n₀ ≤ m) {W : World} {l : Nat} {o o' : Obj} (hl : m ≤ l) (ho : W.heap[l]? = some o) (hc : o.isCells = false) : KY n₀ W (W.putObj l o') := by
  have hg := grownBy_putObj' W l o'
  refine ⟨⟨hg.os, hg.tape, hg.output, hg.size, fun i hi => hg.block i (by have := (Array.getElem?_eq_some_iff.1 ho).1; omega) (fun e => by cases e; omega)⟩, fun k cur t f hk _ => ?_⟩
  exact (CT.put (o' := o') ho hc).2 _ _ hk rfl

/-- The numbers of a set, where boxes stay by their type. -/
theorem alln_genY (n : Nat) (hn : 2 ≤ n) (B b n₀ base : Nat) (low high : Int) (ws : Nat → Nat) (w : World) (hB : w.heap[B]? = some (.cells #[.pointer (some ⟨b, 2, none⟩)] 62 (0, 0))) (hn0 : n₀ ≤ w.heap.size) (hT : PB base w b low high ws) (hb : b < n₀) (hz : Dz w) (hz0 : 0 < n₀) :
    GenX Fence.wide n Tryd.prog 33 #[.pointer (some ⟨B, 0, none⟩)] encN (KY n₀) (XN ws) (fun xs => xs = els ws) (fun _ => True) w := fun l J Jx W hW hJ hY h0 => by
  have hBW := later_keep hW hB
  refine (alln_in n hn l B b n₀ base low high ws (fun s V => J s V ∧ V.heap[B]? = some (.cells #[.pointer (some ⟨b, 2, none⟩)] 62 (0, 0))) Jx (fun s A C h l => ⟨hJ s A C h.1 l, later_keep l h.2⟩) (fun pre x V hV hX => (hY pre x V hV.1 hX).mono fun e V' h => ?_) W hBW (Nat.le_trans hn0 (Below.size hW)) (hT.later hW) hb (hz.later hW) hz0 ⟨h0, hBW⟩).mono ?_
  · rcases h with ⟨h1, h2, h3⟩ | h
    · have hB' := h3.2 B _ _ _ hV.2 (.inl rfl)
      exact .inl ⟨h1, ⟨h2, hB'⟩, h3.1, fun o ho => by rw [hV.2] at ho; rw [hB']; exact ho⟩
    · exact .inr h
  · rintro e W' ⟨he, ⟨xs, hx, hJx, _⟩ | h⟩
    · exact ⟨he, .inl ⟨xs, hx, hJx⟩⟩
    · exact ⟨he, .inr h⟩

def prl (ws : Nat → Nat) (l : List Nat) : List Nat := l.filter (prs ws)
def XP (ws : Nat → Nat) (pre : List Nat) (x : Nat) (_V : World) : Prop := ∃ rest, pre ++ x :: rest = prl ws (els ws)

end Go.Proofs.YtfompbpllndmfaaDoor
