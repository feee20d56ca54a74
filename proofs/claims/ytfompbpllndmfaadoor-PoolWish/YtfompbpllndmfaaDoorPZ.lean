/- The document's pool: take. -/
import Derived.Test.YtfompbpllndmfaaDoorPY
namespace Go.Proofs.YtfompbpllndmfaaDoor
open Go.RowKit Go.Shelf
set_option maxRecDepth 100000
set_option linter.unusedVariables false
set_option linter.unusedSimpArgs false

theorem info_i64 : (Tryd.prog.info? 3).map (fun i => (i.zero, i.size, i.bytes)) = some (some (.int .i64 0), 1, 8) := by kernel_rfl
theorem new_i64 (W : World) (xs : List Value) : ∀ j u, xs[j]? = some u → (W.alloc (.cells xs.toArray 3)).cell? ((⟨W.heap.size, 0, none⟩ : Addr).add j) = some u := fun j u hj => by
  rw [show (⟨W.heap.size, 0, none⟩ : Addr).add j = ⟨W.heap.size, j, none⟩ from by unfold Addr.add; split <;> simp_all, block_cell (heap_alloc_new W _) j]
  simpa using hj
theorem wpList_app64 {ops : Array Oper} {rest : List Oper} {o : Oper} {a : Act} {Q : Exit → Act → World → Prop} {W : World} (hgd : o.guard = none) (s y : Operand)
    (ho : o.op = .call { callee := .builtin .append, args := #[s, y], argTypes := #[59, 59] }) (base : Nat) (v : Value) (M : List Nat) (x : Nat)
    (hs : a.eval s = v) (hy : a.eval y = .slice (some ⟨W.heap.size, 0, none⟩) 1 1) (hown : W.ownsRow base 3 1 v M.length (i64s M)) (hb : base ≤ W.heap.size) (hM : M.length ≤ 200000)
    (h : ∀ g cp W2, W2.ownsRow base 3 1 (.slice (some ⟨g, 0, none⟩) (M.length + 1) cp) (M ++ [x]).length (i64s (M ++ [x])) → Below base W W2 → wpList Tryd.prog ops Q rest (a.put o.dst (.slice (some ⟨g, 0, none⟩) (M.length + 1) cp)) W2) :
    wpList Tryd.prog ops Q (o :: rest) a (W.alloc (.cells #[.int .i64 (x : Int)] 3)) := by
  obtain ⟨i0, hi0, hz0, hz1, hz2⟩ := info_parts info_i64
  have la : Later W (W.alloc (.cells #[.int .i64 (x : Int)] 3)) := (Below.refl _ _).alloc (Nat.le_refl _) _
  have hownA := ownsN_ct hown (CT.of la)
  refine wpList_append_own _ hgd s y 59 ho base 3 i0 (.int .i64 0) 1 8 Tryd.underlying59 hi0 hz0 hz1 hz2 rfl (by decide) v M.length (i64s M) hs hownA ⟨W.heap.size, 0, none⟩ 1 1 [.int .i64 (x : Int)] hy rfl (new_i64 W [.int .i64 (x : Int)]) (by intro u hu; simp at hu; subst hu; rfl) (by unfold maxLen; omega) (by omega) (by have := la.size; omega) ?_
  intro v2 W2 hrow hg _
  obtain ⟨g2, cp2, rfl⟩ := ownsRow_succ hrow
  refine h g2 cp2 W2 ?_ ?_
  · rw [i64s_snoc, List.length_append, List.length_singleton]
    exact hrow
  · refine (la.mono hb).trans ⟨hg.os, hg.tape, hg.output, hg.size, fun i hi => hg.block i (by have := la.size; omega) (fun e => ?_)⟩
    have := (hown.lt i e.symm).1
    omega

/-- A number among others, ahead of the first greater one. -/
def insU (n : Nat) : List Nat → List Nat
  | [] => [n]
  | x :: xs => if n < x then n :: x :: xs else x :: insU n xs
theorem insU_end (n : Nat) : ∀ (U : List Nat), (∀ x ∈ U, ¬ n < x) → insU n U = U ++ [n]
  | [], _ => rfl
  | x :: xs, h => by
    unfold insU
    rw [if_neg (h x (by simp)), insU_end n xs (fun y hy => h y (by simp [hy]))]
    rfl
theorem insU_mid (n y : Nat) (B : List Nat) (hy : n < y) : ∀ (A : List Nat), (∀ x ∈ A, ¬ n < x) → insU n (A ++ y :: B) = A ++ n :: y :: B
  | [], _ => by simp [insU, hy]
  | x :: xs, h => by
    show insU n (x :: (xs ++ y :: B)) = _
    unfold insU
    rw [if_neg (h x (by simp)), insU_mid n y B hy xs (fun z hz => h z (by simp [hz]))]
    rfl
theorem insU_length (n : Nat) : ∀ (U : List Nat), (insU n U).length = U.length + 1
  | [] => rfl
  | x :: xs => by
    unfold insU
    split
    · rfl
    · simp [insU_length n xs]
theorem DP.below {base : Nat} {A B : World} {rb : Nat} {v : Value} {low high : Nat} {U : List Nat} (h : DP base A rb v low high U) (l : Below A.heap.size A B) : DP base B rb v low high U := h.later l

/-- What take holds on its way. -/
def TkI (n : Nat) (U : List Nat) (q : Nat) (M : List Nat) (pl : Bool) : Prop := (pl = false ∧ M = U.take q ∧ ∀ x ∈ U.take q, ¬ n < x) ∨ (pl = true ∧ M ++ U.drop q = insU n U)
theorem TkI.len {n : Nat} {U : List Nat} {q : Nat} {M : List Nat} {pl : Bool} (h : TkI n U q M pl) (hq : q ≤ U.length) : M.length ≤ q + 1 := by
  rcases h with ⟨_, rfl, _⟩ | ⟨_, h⟩
  · simp; omega
  · have := congrArg List.length h
    rw [insU_length] at this
    simp at this
    omega
theorem TkI.keep {n : Nat} {U : List Nat} {q : Nat} {M : List Nat} {pl : Bool} (h : TkI n U q M pl) (hq : q < U.length) (hc : pl = true ∨ ¬ n < U[q]?.getD 0) : TkI n U (q + 1) (M ++ [U[q]?.getD 0]) pl := by
  have e1 : U.take (q + 1) = U.take q ++ [U[q]?.getD 0] := by rw [List.getElem?_eq_getElem hq]; simp
  have e2 : U.drop q = U[q]?.getD 0 :: U.drop (q + 1) := by rw [List.getElem?_eq_getElem hq]; simp
  rcases h with ⟨h1, rfl, h3⟩ | ⟨h1, h2⟩
  · refine .inl ⟨h1, e1.symm, fun x hx => ?_⟩
    rw [e1] at hx
    rcases List.mem_append.1 hx with hx | hx
    · exact h3 x hx
    · rcases hc with hc | hc
      · rw [h1] at hc; cases hc
      · simp at hx; rw [hx]; exact hc
  · refine .inr ⟨h1, ?_⟩
    rw [← h2, e2]
    simp
theorem TkI.put {n : Nat} {U : List Nat} {q : Nat} {M : List Nat} (h : TkI n U q M false) (hq : q < U.length) (hc : n < U[q]?.getD 0) : TkI n U (q + 1) (M ++ [n] ++ [U[q]?.getD 0]) true := by
  have e2 : U = U.take q ++ U[q]?.getD 0 :: U.drop (q + 1) := by
    conv => lhs; rw [← List.take_append_drop q U]
    rw [List.getElem?_eq_getElem hq]; simp
  rcases h with ⟨h1, rfl, h3⟩ | ⟨h1, h2⟩
  · refine .inr ⟨rfl, ?_⟩
    have := insU_mid n _ (U.drop (q + 1)) hc (U.take q) h3
    rw [← e2] at this
    rw [this]
    simp
  · cases h1
theorem TkI.done_f {n : Nat} {U : List Nat} {M : List Nat} (h : TkI n U U.length M false) : M ++ [n] = insU n U := by
  rcases h with ⟨h1, rfl, h3⟩ | ⟨h1, h2⟩
  · rw [List.take_of_length_le (Nat.le_refl _)] at h3 ⊢
    exact (insU_end n U h3).symm
  · cases h1
theorem TkI.done_t {n : Nat} {U : List Nat} {M : List Nat} (h : TkI n U U.length M true) : M = insU n U := by
  rcases h with ⟨h1, _, _⟩ | ⟨h1, h2⟩
  · cases h1
  · rw [List.drop_of_length_le (Nat.le_refl _), List.append_nil] at h2
    exact h2
end Go.Proofs.YtfompbpllndmfaaDoor
