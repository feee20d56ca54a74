/- Package segs: options of one's own, as they lie in memory. -/
import Derived.Test.YtclkfmdlgffbeaaSL
namespace Go.Proofs.Ytclkfmdlgffbeaa
open Go.RowKit Go.Shelf
set_option maxRecDepth 100000
set_option linter.unusedVariables false
set_option linter.unusedSimpArgs false

def rowO (os : List Opt) (ss : List Value) : List Value := (os.zip ss).flatMap fun p => [.int .u8 p.1.1, p.2]
theorem rowO_length : ∀ (os : List Opt) (ss : List Value), ss.length = os.length → (rowO os ss).length = os.length * 2
  | [], [], _ => rfl
  | o :: os, s :: ss, h => by
    have ih := rowO_length os ss (by simpa using h)
    unfold rowO at ih ⊢
    simp only [List.zip_cons_cons, List.flatMap_cons, List.length_append, List.length_cons, List.length_nil] at ih ⊢
    omega
theorem rowO_at : ∀ (os : List Opt) (ss : List Value), ss.length = os.length → ∀ j, j < os.length → (rowO os ss)[j * 2]? = some (.int .u8 (os[j]?.getD (0, [])).1) ∧ (rowO os ss)[j * 2 + 1]? = some (ss[j]?.getD undef)
  | o :: os, s :: ss, _, 0, _ => by simp [rowO]
  | o :: os, s :: ss, h, j + 1, hj => by
    have ih := rowO_at os ss (by simpa using h) j (by simpa using hj)
    unfold rowO at ih ⊢
    simp only [List.zip_cons_cons, List.flatMap_cons, List.cons_append, List.nil_append]
    rw [show (j + 1) * 2 = j * 2 + 1 + 1 from by omega]
    simpa using ih
theorem rowO_snoc (os : List Opt) (ss : List Value) (h : ss.length = os.length) (o : Opt) (s : Value) : rowO (os ++ [o]) (ss ++ [s]) = rowO os ss ++ [.int .u8 o.1, s] := by
  unfold rowO
  rw [List.zip_append h.symm]
  simp

/-- Options of one's own: the row, and each one's data. -/
def OwO (base : Nat) (W : World) (v : Value) (os : List Opt) : Prop :=
  ∃ ss, ss.length = os.length ∧ W.ownsRow base 57 2 v os.length (rowO os ss) ∧ ∀ j, j < os.length → Ow base W (ss[j]?.getD undef) (os[j]?.getD (0, [])).2
/-- What lies in cells stays. -/
def CK (A B : World) : Prop := A.heap.size ≤ B.heap.size ∧ ∀ (k : Nat) (o : Obj), A.heap[k]? = some o → o.isCells = true → B.heap[k]? = some o
theorem CK.of {A B : World} (h : Later A B) : CK A B := ⟨h.size, fun k o ho _ => later_keep h ho⟩
theorem CK.trans {A B C : World} (h : CK A B) (k : CK B C) : CK A C := ⟨Nat.le_trans h.1 k.1, fun i o ho hc => k.2 i o (h.2 i o ho hc) hc⟩
theorem CK.row {A B : World} {row : Option Nat} (hg : A.grownBy B row) (hr : ∀ r, row = some r → ∃ o : Obj, A.heap[r]? = some o ∧ o.isCells = false) : CK A B :=
  ⟨hg.size, fun k o ho hc => (hg.block k (Array.getElem?_eq_some_iff.1 ho).1 (fun e => by obtain ⟨o', h1, h2⟩ := hr k e.symm; rw [ho] at h1; cases h1; rw [hc] at h2; cases h2)).trans ho⟩
theorem CK.put {A : World} {l : Nat} {o o' : Obj} (h : A.heap[l]? = some o) (hc : o.isCells = false) : CK A (A.putObj l o') :=
  CK.row (grownBy_putObj' A l o') (fun r e => by cases e; exact ⟨o, h, hc⟩)
theorem Ow.ck {base : Nat} {A B : World} {v : Value} {zs : List Int} (h : Ow base A v zs) (c : CK A B) : Ow base B v zs := by
  rcases h with h | ⟨g, cap, cur, h1, h2, h3, h4, h5, h6, h7⟩
  · exact .inl h
  · exact .inr ⟨g, cap, cur, h1, h2, h3, h4, h5, c.2 g _ h6 rfl, h7⟩
theorem ownsRow_ck {base : Nat} {e : TypeId} {size : Nat} {A B : World} {v : Value} {n : Nat} {xs : List Value} (h : A.ownsRow base e size v n xs) (c : CK A B) : B.ownsRow base e size v n xs := by
  refine ⟨h.1, h.2.imp id ?_⟩
  rintro ⟨g, cap, cur, h1, h2, h3, r⟩
  exact ⟨g, cap, cur, h1, h2, c.2 g _ h3 rfl, r⟩
theorem OwO.ck {base : Nat} {A B : World} {v : Value} {os : List Opt} (h : OwO base A v os) (c : CK A B) : OwO base B v os := by
  obtain ⟨ss, h1, h2, h3⟩ := h
  exact ⟨ss, h1, ownsRow_ck h2 c, fun j hj => (h3 j hj).ck c⟩
theorem OwO.nil (base : Nat) (W : World) : OwO base W (.slice none 0 0) [] := ⟨[], rfl, World.ownsRow_nil _ _ _ _, fun j h => by simp at h⟩
theorem OwO.mono {base base' : Nat} {W : World} {v : Value} {os : List Opt} (h : OwO base W v os) (hb : base' ≤ base) : OwO base' W v os := by
  obtain ⟨ss, h1, h2, h3⟩ := h
  refine ⟨ss, h1, ⟨h2.1, h2.2.imp id ?_⟩, fun j hj => (h3 j hj).mono hb⟩
  rintro ⟨g, cap, cur, h1, h2, r⟩
  exact ⟨g, cap, cur, h1, by omega, r⟩
/-- They stay where blocks turn that are none of theirs. -/
theorem OwO.but {base : Nat} {E : Nat → Prop} {A B : World} {v : Value} {os : List Opt} (h : OwO base A v os) (hb : But E A B) (hE : ∀ b, base ≤ b → ¬ E b) : OwO base B v os := by
  obtain ⟨ss, h1, h2, h3⟩ := h
  refine ⟨ss, h1, ⟨h2.1, h2.2.imp id ?_⟩, fun j hj => (h3 j hj).but hb hE⟩
  rintro ⟨g, cap, cur, h1, h2, h3, r⟩
  exact ⟨g, cap, cur, h1, h2, (hb.block g (Array.getElem?_eq_some_iff.1 h3).1 (hE g h2)).trans h3, r⟩
theorem OwO.rd {base : Nat} {W : World} {v : Value} {os : List Opt} (h : OwO base W v os) : RdO W.heap.size W v os := by
  obtain ⟨ss, h1, h2, h3⟩ := h
  rcases h2.2 with ⟨rfl, hn⟩ | ⟨g, cap, cur, rfl, hg, hh, hl, hm, hs, hc⟩
  · exact .inl ⟨none, 0, rfl, List.eq_nil_of_length_eq_zero hn, by omega, fun _ => rfl⟩
  · by_cases h0 : os = []
    · subst h0
      exact .inl ⟨_, cap, rfl, rfl, by simpa [maxLen] using hm, fun h => by cases h⟩
    · refine .inr ⟨g, 0, cap, rfl, h0, hl, by simpa [maxLen] using hm, (Array.getElem?_eq_some_iff.1 hh).1, fun j hj => ?_⟩
      have hat := rowO_at os ss h1 j hj
      have hk : ∀ i, i < os.length * 2 → W.cell? ⟨g, 0 + i, none⟩ = (rowO os ss)[i]? := fun i hi => by
        rw [Nat.zero_add, block_cell hh i, ← hc, List.getElem?_take_of_lt hi]
        simp
      refine ⟨ss[j]?.getD undef, by rw [hk _ (by omega)]; exact hat.1, by rw [Nat.add_assoc, hk _ (by omega)]; exact hat.2, (h3 j hj).rd⟩
theorem OwO.slice {base : Nat} {W : World} {v : Value} {os : List Opt} (h : OwO base W v os) : ∃ a cap, v = .slice a os.length cap ∧ os.length ≤ cap ∧ cap ≤ 9223372036854775807 := h.rd.slice
end Go.Proofs.Ytclkfmdlgffbeaa
