/- The document's Add of rules. -/
import Derived.Test.YtgjemeibaghfaabYN
import Derived.Test.YtgjemeibaghfaabYD
namespace Go.Proofs.Ytgjemeibaghfaab
open Go.RowKit Go.Shelf
set_option maxRecDepth 100000
set_option linter.unusedVariables false
set_option linter.unusedSimpArgs false

theorem hasB_no {x : Ru} {l : List Ru} (h : ∀ j (hj : j < l.length), l[j] ≠ x) : hasB x l = false := by
  cases hb : hasB x l with
  | false => rfl
  | true =>
    obtain ⟨j, hj, e⟩ := List.getElem_of_mem (hasB_iff.1 hb)
    exact absurd e (h j hj)
theorem exec_eql (ρ : Operand → Value) (o : Oper) (p q : Operand) (ty : TypeId) (hop : o.op = .binOp .eql 30 p q ty) (x y : Ru) (hx : ρ p = .agg (ruc x).toArray) (hy : ρ q = .agg (ruc y).toArray) (w : World) : (execOp ρ o).run Try.prog w = .ok (.value (.bool (decide (x = y)))) w := by
  obtain ⟨k1, p1, n1, b1, t1, q1, h1, g1⟩ := x
  obtain ⟨k2, p2, n2, b2, t2, q2, h2, g2⟩ := y
  unfold ruc at hx hy
  simp only at hx hy
  unfold execOp
  rw [hop]
  simp only [hx, hy]
  go_simp
  by_cases e1 : k1 = k2 <;> by_cases e2 : p1 = p2 <;> by_cases e3 : n1 = n2 <;> by_cases e4 : b1 = b2 <;> by_cases e5 : t1 = t2 <;> by_cases e6 : q1 = q2 <;> by_cases e7 : h1 = h2 <;> by_cases e8 : g1 = g2 <;> simp [e1, e2, e3, e4, e5, e6, e7, e8, Ru.mk.injEq]

theorem exec_neq (ρ : Operand → Value) (o : Oper) (p q : Operand) (ty : TypeId) (hop : o.op = .binOp .neq 30 p q ty) (x y : Ru) (hx : ρ p = .agg (ruc x).toArray) (hy : ρ q = .agg (ruc y).toArray) (w : World) : (execOp ρ o).run Try.prog w = .ok (.value (.bool (!decide (x = y)))) w := by
  obtain ⟨k1, p1, n1, b1, t1, q1, h1, g1⟩ := x
  obtain ⟨k2, p2, n2, b2, t2, q2, h2, g2⟩ := y
  unfold ruc at hx hy
  simp only at hx hy
  unfold execOp
  rw [hop]
  simp only [hx, hy]
  go_simp
  by_cases e1 : k1 = k2 <;> by_cases e2 : p1 = p2 <;> by_cases e3 : n1 = n2 <;> by_cases e4 : b1 = b2 <;> by_cases e5 : t1 = t2 <;> by_cases e6 : q1 = q2 <;> by_cases e7 : h1 = h2 <;> by_cases e8 : g1 = g2 <;> simp [e1, e2, e3, e4, e5, e6, e7, e8, Ru.mk.injEq]

theorem But.laterF {a b : World} (h : But (fun _ => False) a b) : Later a b := ⟨h.os, h.tape, h.output, h.size, fun i hi => h.block i hi (fun e => e)⟩

end Go.Proofs.Ytgjemeibaghfaab