/- Package table: Due. -/
import Derived.Test.YtahphjindjlcpaaBI
namespace Go.Proofs.Ytahphjindjlcpaa
open Go.RowKit Go.Shelf
set_option maxRecDepth 100000
attribute [local go_sem] Oper.semAt_some
set_option linter.unusedVariables false
set_option linter.unusedSimpArgs false

theorem all_in (n bt : Nat) (w : World) :
    CallsIn Fence.wide n Try.prog 39 #[.pointer (some ⟨bt, 3, none⟩)] w fun e w' => e = .returned (.func (.func 51) #[] #[.pointer (some ⟨w.heap.size, 0, none⟩)]) ∧ w' = w.alloc (.cells #[.pointer (some ⟨bt, 3, none⟩)] 66) := by
  refine callsIn_of_wp Try.func39 rfl trivial ?_ rfl
  simp only [Try.ntmps39, List.size_toArray, List.length_cons, List.length_nil, Nat.reduceAdd, Nat.reduceSub, Array.replicate_succ, Array.replicate_zero, List.push_toArray, List.append_toArray, List.nil_append, List.cons_append]
  gi_wp2
  go_ret
  exact ⟨rfl, rfl⟩

/-- Whose time has come. -/
def duR (now : Int) (l : List Rw) : List Rw := l.filter fun r => decide (r.till ≤ now)
theorem duR_yes {now : Int} {l : List Rw} {r : Rw} (h : r.till ≤ now) : duR now (l ++ [r]) = duR now l ++ [r] := by unfold duR; rw [List.filter_append]; simp [h]
theorem duR_no {now : Int} {l : List Rw} {r : Rw} (h : ¬ r.till ≤ now) : duR now (l ++ [r]) = duR now l := by unfold duR; rw [List.filter_append]; simp [h]
theorem duR_length (now : Int) (l : List Rw) : (duR now l).length ≤ l.length := List.length_filter_le _ _
theorem rws_snoc (l : List Rw) (r : Rw) : rws (l ++ [r]) = rws l ++ rwc r := by unfold rws; simp

def CT (A B : World) : Prop := A.heap.size ≤ B.heap.size ∧ ∀ (k : Nat) (o : Obj), A.heap[k]? = some o → o.isCells = true → B.heap[k]? = some o
theorem CT.of {A B : World} (h : Later A B) : CT A B := ⟨h.size, fun k o ho _ => later_keep h ho⟩
theorem CT.row {A B : World} {row : Option Nat} (hg : A.grownBy B row) (hr : ∀ r, row = some r → ∃ o : Obj, A.heap[r]? = some o ∧ o.isCells = false) : CT A B :=
  ⟨hg.size, fun k o ho hc => (hg.block k (Array.getElem?_eq_some_iff.1 ho).1 (fun e => by obtain ⟨o', h1, h2⟩ := hr k e.symm; rw [ho] at h1; cases h1; rw [hc] at h2; cases h2)).trans ho⟩
theorem CT.put {A : World} {l : Nat} {o o' : Obj} (h : A.heap[l]? = some o) (hc : o.isCells = false) : CT A (A.putObj l o') :=
  CT.row (grownBy_putObj' A l o') (fun r e => by cases e; exact ⟨o, h, hc⟩)
theorem ownsR_ct {base : Nat} {e : TypeId} {size : Nat} {A B : World} {v : Value} {n : Nat} {xs : List Value} (h : A.ownsRow base e size v n xs) (c : CT A B) : B.ownsRow base e size v n xs := by
  obtain ⟨h1, h2 | ⟨g, cap, cur, hv, hg, hh, r⟩⟩ := h
  · exact ⟨h1, .inl h2⟩
  · exact ⟨h1, .inr ⟨g, cap, cur, hv, hg, c.2 _ _ hh rfl, r⟩⟩

/-- What Due keeps while it gathers. -/
def PD (rb base : Nat) (now : Int) (pre : List Rw) (W : World) : Prop :=
  (∃ v, W.heap[rb + 1]? = some (.cells #[v] 57 (0, 0)) ∧ W.ownsRow base 65 8 v (duR now pre).length (rws (duR now pre))) ∧ W.heap[rb]? = some (.cells #[.int .i64 now] 3 (0, 0))
theorem PD.ct {rb base : Nat} {now : Int} {pre : List Rw} {A B : World} (h : PD rb base now pre A) (c : CT A B) : PD rb base now pre B := by
  obtain ⟨⟨v, h1, h2⟩, h3⟩ := h
  exact ⟨⟨v, c.2 _ _ h1 rfl, ownsR_ct h2 c⟩, c.2 _ _ h3 rfl⟩
/-- What sorting makes of a list. -/
def SortsTo (l l' : List Rw) : Prop := l'.length = l.length ∧ ∀ (base : Nat) (v : Value) (W : World), W.ownsRow base 65 8 v l.length (rws l) →
  Calls Try.prog 40 #[v, .func (.func 41) #[] #[]] W fun e W' => (∃ u, e = .returned u) ∧ W'.ownsRow base 65 8 v l.length (rws l') ∧ But (fun g => v.ownBlock = some g) W W'
theorem sorts_one (l : List Rw) (h : l.length ≤ 1) : SortsTo l l := ⟨rfl, fun base v W hv => by
  obtain ⟨a, cap, rfl, _, _⟩ := (ownR_rd hv).slice
  refine (sort_one a l.length cap _ W h).mono ?_
  rintro e W' ⟨hu, rfl⟩
  exact ⟨hu, hv, But.refl _ _⟩⟩

end Go.Proofs.Ytahphjindjlcpaa
