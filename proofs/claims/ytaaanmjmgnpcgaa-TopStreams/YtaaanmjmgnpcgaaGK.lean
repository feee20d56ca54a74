/- The document's parts of a stream as they lie in memory; lists of them copied. -/
import Derived.Test.YtaaanmjmgnpcgaaGI
namespace Go.Proofs.Ytaaanmjmgnpcgaa
open Go.RowKit Go.Shelf
set_option maxRecDepth 100000
set_option linter.unusedVariables false
set_option linter.unusedSimpArgs false

/-- A rule. -/
structure Dp where
  st : Int
  wz : Int
  ta : Option Addr
  tn : Nat
  tc : Nat
def dpc (r : Dp) : List Value := [.int .u32 r.st, .int .i64 r.wz, .slice r.ta r.tn r.tc]
def zDp : Dp := ⟨0, 0, none, 0, 0⟩
def dps (l : List Dp) : List Value := l.flatMap dpc
theorem dpc_length (r : Dp) : (dpc r).length = 3 := rfl
theorem dps_length (l : List Dp) : (dps l).length = l.length * 3 := by
  induction l with
  | nil => rfl
  | cons r l ih => unfold dps at ih ⊢; rw [List.flatMap_cons, List.length_append, ih, dpc_length, List.length_cons]; omega
theorem dps_snoc (l : List Dp) (r : Dp) : dps (l ++ [r]) = dps l ++ dpc r := by unfold dps; simp
theorem dps_append (l m : List Dp) : dps (l ++ m) = dps l ++ dps m := by unfold dps; simp
theorem dps_at : ∀ (l : List Dp) (j i : Nat) (hj : j < l.length), i < 3 → (dps l)[j * 3 + i]? = (dpc l[j])[i]?
  | r :: l, 0, i, _, hi => by
    unfold dps
    rw [List.flatMap_cons, Nat.zero_mul, Nat.zero_add, List.getElem?_append_left (by rw [dpc_length]; exact hi)]
    rfl
  | r :: l, j + 1, i, hj, hi => by
    have ih := dps_at l j i (by simpa using hj) hi
    unfold dps at ih ⊢
    rw [List.flatMap_cons, List.getElem?_append_right (by rw [dpc_length]; omega), dpc_length, show (j + 1) * 3 + i - 3 = j * 3 + i from by omega, ih]
    rfl
/-- The slice value reads as these rules, all of it below block n₀. -/
def RdW (n₀ : Nat) (W : World) (sv : Value) (l : List Dp) : Prop :=
  (∃ a cap, sv = .slice a 0 cap ∧ l = [] ∧ cap ≤ 9223372036854775807 ∧ (a = none → cap = 0)) ∨
  ∃ b off cap, sv = .slice (some ⟨b, off, none⟩) l.length cap ∧ l ≠ [] ∧ l.length ≤ cap ∧ cap ≤ 9223372036854775807 ∧ b < n₀ ∧ ∀ j (hj : j < l.length), ∀ i, i < 3 → W.cell? ⟨b, off + j * 3 + i, none⟩ = (dpc l[j])[i]?
theorem RdW.below {n₀ : Nat} {A B : World} (h : Below n₀ A B) {sv : Value} {l : List Dp} : RdW n₀ A sv l → RdW n₀ B sv l
  | .inl e => .inl e
  | .inr ⟨b, off, cap, e, hne, hl, hm, hb, hc⟩ => .inr ⟨b, off, cap, e, hne, hl, hm, hb, fun j hj i hi => (h.cell (p := ⟨b, off + j * 3 + i, none⟩) hb).trans (hc j hj i hi)⟩
theorem RdW.mono {n₀ n₁ : Nat} {A : World} (h : n₀ ≤ n₁) {sv : Value} {l : List Dp} : RdW n₀ A sv l → RdW n₁ A sv l
  | .inl e => .inl e
  | .inr ⟨b, off, cap, e, hne, hl, hm, hb, hc⟩ => .inr ⟨b, off, cap, e, hne, hl, hm, Nat.lt_of_lt_of_le hb h, hc⟩
theorem RdW.slice {n₀ : Nat} {A : World} {sv : Value} {l : List Dp} : RdW n₀ A sv l → ∃ a cap, sv = .slice a l.length cap ∧ l.length ≤ cap ∧ cap ≤ 9223372036854775807
  | .inl ⟨a, cap, e, hz, hm, _⟩ => ⟨a, cap, by rw [e, hz]; rfl, by rw [hz]; exact Nat.zero_le _, hm⟩
  | .inr ⟨b, off, cap, e, _, hl, hm, _⟩ => ⟨_, cap, e, hl, hm⟩
theorem RdW.cells {n₀ : Nat} {W : World} {sv : Value} {l : List Dp} (h : RdW n₀ W sv l) (hne : 0 < l.length) : ∃ b off cap, sv = .slice (some ⟨b, off, none⟩) l.length cap ∧ l.length ≤ cap ∧ cap ≤ 9223372036854775807 ∧ b < n₀ ∧ ∀ j (hj : j < l.length), ∀ i, i < 3 → W.cell? ⟨b, off + j * 3 + i, none⟩ = (dpc l[j])[i]? := by
  rcases h with ⟨a, cap, _, rfl, _⟩ | ⟨b, off, cap, e, _, hl, hm, hb, hc⟩
  · simp at hne
  · exact ⟨b, off, cap, e, hl, hm, hb, hc⟩
/-- What one's own row of rules reads as. -/
theorem ownD_rd {base : Nat} {W : World} {v : Value} {l : List Dp} (h : W.ownsRow base 73 3 v l.length (dps l)) : RdW W.heap.size W v l := by
  obtain ⟨h1, ⟨rfl, h0⟩ | ⟨g, cap, cur, rfl, hg, hh, hl, hm, hs, hc⟩⟩ := h
  · have : l = [] := List.eq_nil_of_length_eq_zero h0
    subst this
    exact .inl ⟨none, 0, rfl, rfl, by omega, fun _ => rfl⟩
  · by_cases hn : l = []
    · subst hn
      exact .inl ⟨_, cap, rfl, rfl, by simpa [maxLen] using hm, fun h => by cases h⟩
    · refine .inr ⟨g, 0, cap, rfl, hn, hl, by simpa [maxLen] using hm, (Array.getElem?_eq_some_iff.1 hh).1, fun j hj i hi => ?_⟩
      rw [Nat.zero_add, block_cell hh, ← dps_at l j i hj hi, ← hc, List.getElem?_take_of_lt (by omega)]
      simp
theorem ownD_later {base : Nat} {A B : World} {v : Value} {n : Nat} {xs : List Value} (h : A.ownsRow base 73 3 v n xs) (l : Later A B) : B.ownsRow base 73 3 v n xs := by
  obtain ⟨h1, h2 | ⟨g, cap, cur, hv, hg, hh, r⟩⟩ := h
  · exact ⟨h1, .inl h2⟩
  · exact ⟨h1, .inr ⟨g, cap, cur, hv, hg, later_keep l hh, r⟩⟩
/-- Rules as they lie in memory: at block b, of type t, the list in a block of its own. -/
def DS (t : TypeId) (base : Nat) (W : World) (b : Nat) (v : Value) (l : List Dp) : Prop := base ≤ b ∧ W.heap[b]? = some (.cells #[v] t (0, 0)) ∧ W.ownsRow base 73 3 v l.length (dps l)
theorem DS.later {t : TypeId} {base : Nat} {A B : World} {b : Nat} {v : Value} {l : List Dp} (h : DS t base A b v l) (k : Later A B) : DS t base B b v l := ⟨h.1, later_keep k h.2.1, ownD_later h.2.2 k⟩
theorem DS.but {t : TypeId} {base : Nat} {A B : World} {b : Nat} {v : Value} {l : List Dp} {E : Nat → Prop} (h : DS t base A b v l) (k : But E A B) (hb : ¬ E b) (hv : ∀ g, v.ownBlock = some g → ¬ E g) : DS t base B b v l := by
  refine ⟨h.1, (k.block b (Array.getElem?_eq_some_iff.1 h.2.1).1 hb).trans h.2.1, ?_⟩
  obtain ⟨h1, h2 | ⟨g, cap, cur, e, hg, hh, r⟩⟩ := h.2.2
  · exact ⟨h1, .inl h2⟩
  · exact ⟨h1, .inr ⟨g, cap, cur, e, hg, (k.block g (Array.getElem?_eq_some_iff.1 hh).1 (hv g (by rw [e]; rfl))).trans hh, r⟩⟩
/-- The list's block is no object's. -/
theorem DS.ne {t t2 : TypeId} {base : Nat} {W : World} {b c : Nat} {v : Value} {l : List Dp} {cur : Array Value} (h : DS t base W b v l) (hc : W.heap[c]? = some (.cells cur t2 (0, 0))) (ht : t2 ≠ 73) : v.ownBlock ≠ some c := fun e => by
  obtain ⟨h1, ⟨hn, _⟩ | ⟨g, cap, cu, hv, hg, hh, r⟩⟩ := h.2.2
  · rw [hn] at e; cases e
  · rw [hv] at e
    cases e
    rw [hc] at hh
    simp at hh
    exact ht hh.2
theorem DS.lt {t : TypeId} {base : Nat} {W : World} {b : Nat} {v : Value} {l : List Dp} (h : DS t base W b v l) {g : Nat} (e : v.ownBlock = some g) : base ≤ g ∧ g < W.heap.size := by
  obtain ⟨h1, ⟨hn, _⟩ | ⟨g2, cap, cu, hv, hg, hh, r⟩⟩ := h.2.2
  · rw [hn] at e; cases e
  · rw [hv] at e
    cases e
    exact ⟨hg, (Array.getElem?_eq_some_iff.1 hh).1⟩
theorem DS.blt {t : TypeId} {base : Nat} {W : World} {b : Nat} {v : Value} {l : List Dp} (h : DS t base W b v l) : b < W.heap.size := (Array.getElem?_eq_some_iff.1 h.2.1).1

theorem info_dpart : (Try.prog.info? 73).map (fun i => (i.zero, i.size, i.bytes)) = some (some (.agg #[.int .u32 0, .int .i64 0, .slice none 0 0]), 3, 40) := by kernel_rfl

theorem new_rowD (W : World) (x : Dp) : ∀ j u, (dpc x)[j]? = some u → (W.alloc (.cells (dpc x).toArray 73)).cell? ((⟨W.heap.size, 0, none⟩ : Addr).add j) = some u := fun j u hj => by
  rw [show (⟨W.heap.size, 0, none⟩ : Addr).add j = ⟨W.heap.size, j, none⟩ from by unfold Addr.add; split <;> simp_all, block_cell (heap_alloc_new W _) j]
  simpa using hj
/-- How a change of rules leaves them. -/
def DSq (t : TypeId) (base : Nat) (w w' : World) (b : Nat) (v : Value) (l : List Dp) : Prop := ∃ v', DS t base w' b v' l ∧ But (fun g => g = b ∨ v.ownBlock = some g) w w' ∧ (v'.ownBlock = v.ownBlock ∨ ∀ g, v'.ownBlock = some g → w.heap.size ≤ g)
theorem DSq.same {t : TypeId} {base : Nat} {w w' : World} {b : Nat} {v : Value} {l : List Dp} (h : DS t base w b v l) (k : Later w w') : DSq t base w w' b v l := ⟨v, h.later k, But.of k, .inl rfl⟩

theorem dps_one (l : List Dp) : ∀ u ∈ dps l, u.oneCell' = true := fun u hu => by
  obtain ⟨r, _, hr⟩ := List.mem_flatMap.1 hu
  simp only [dpc, List.mem_cons, List.not_mem_nil, or_false] at hr
  rcases hr with rfl | rfl | rfl <;> rfl

/-- All of a list appended onto one's own. -/
theorem appD (w : World) (ty : TypeId) (base n₀ : Nat) (v : Value) (xs : List Dp) (sv : Value) (ys : List Dp) (hown : w.ownsRow base 73 3 v xs.length (dps xs)) (hI : RdW n₀ w sv ys) (hbase : base ≤ w.heap.size) (hs : xs.length + ys.length ≤ 10000) :
    ∃ v' w', (Builtin.append_ #[69, 69] ty #[v, sv]).run Try.prog w = .ok v' w' ∧ w'.ownsRow base 73 3 v' (xs ++ ys).length (dps (xs ++ ys)) ∧ w.grownBy w' v.ownBlock ∧ (v'.ownBlock = v.ownBlock ∨ v'.ownBlock = some w.heap.size) := by
  obtain ⟨i0, hi0, hz0, hz1, hz2⟩ := info_partsP info_dpart
  rcases hI with ⟨a, cap, rfl, rfl, hcm, ha⟩ | ⟨b, off, cap, rfl, hne, hl, hm, hb, hc⟩
  · obtain ⟨av, cv, rfl, hv1, hv2⟩ := (ownD_rd hown).slice
    refine ⟨_, w, run_append_nothing w _ _ ty _ i0 Try.underlying69 hi0 av xs.length cv hv1 (.slice a 0 cap) ?_, by rw [List.append_nil]; exact hown, ⟨rfl, rfl, rfl, Nat.le_refl _, fun _ _ _ => rfl⟩, .inl rfl⟩
    refine ⟨.inl ⟨_, Try.underlying69⟩, fun w' => ?_, ?_, ?_, by simp, by simp⟩ <;> cases a <;> simp [Builtin.lenOf, Builtin.firstCells, go_sem]
  · have hp : 0 < ys.length := List.length_pos_iff.2 hne
    obtain ⟨g, cap', w', hr, h2, h3, h4, h5⟩ := run_append_lies (P := Try.prog) w 69 ty base 73 i0 _ 3 40 Try.underlying69 hi0 hz0 hz1 hz2 rfl (by decide) v xs.length (dps xs) hown ⟨b, off, none⟩ ys.length cap (dps ys) (dps_length ys) (fun j u hj => by
      have hlt := (List.getElem?_eq_some_iff.1 hj).1
      rw [dps_length] at hlt
      rw [addr_add']
      have h1 := hc (j / 3) (by omega) (j % 3) (Nat.mod_lt _ (by omega))
      rw [← dps_at ys (j / 3) (j % 3) (by omega) (Nat.mod_lt _ (by omega)), show j / 3 * 3 + j % 3 = j from by omega, hj] at h1
      rw [← h1]
      congr 2
      omega) (dps_one ys) hp (by unfold maxLen; omega) (by omega) hbase _ rfl
    refine ⟨_, w', hr, by rw [List.length_append, dps_append]; exact h2, h3, ?_⟩
    rcases h4 with h4 | h4
    · exact .inl (by rw [h4]; rfl)
    · exact .inr (by rw [h4]; rfl)

theorem ownD_made (w : World) : (w.alloc (.cells #[] 73)).ownsRow w.heap.size 73 3 (.slice (some ⟨w.heap.size, 0, none⟩) 0 0) ([] : List Dp).length (dps []) :=
  ⟨rfl, .inr ⟨w.heap.size, 0, #[], rfl, Nat.le_refl _, heap_alloc_new w _, Nat.le_refl _, by unfold maxLen; omega, rfl, rfl⟩⟩
/-- A copy of a list in memory of its own. -/
theorem copyDp (w : World) (ty : TypeId) (n₀ : Nat) (sv : Value) (ys : List Dp) (hI : RdW n₀ w sv ys) (hn : n₀ ≤ w.heap.size) (hs : ys.length ≤ 10000) :
    ∃ v' w', (Builtin.append_ #[69, 69] ty #[.slice (some ⟨w.heap.size, 0, none⟩) 0 0, sv]).run Try.prog (w.alloc (.cells #[] 73)) = .ok v' w' ∧ w'.ownsRow w.heap.size 73 3 v' ys.length (dps ys) ∧ Later w w' := by
  have la : Later w (w.alloc (.cells #[] 73)) := (Below.refl _ _).alloc (Nat.le_refl _) _
  obtain ⟨v', w', h1, h2, h3, h4⟩ := appD (w.alloc (.cells #[] 73)) ty w.heap.size n₀ _ [] sv ys (ownD_made w) (hI.below (la.mono hn)) la.size (by simpa using hs)
  refine ⟨v', w', h1, by simpa using h2, ?_⟩
  exact Below.trans la ⟨h3.os, h3.tape, h3.output, h3.size, fun k hk => h3.block k (by simp; omega) (fun e => by simp [Value.ownBlock] at e; omega)⟩

end Go.Proofs.Ytaaanmjmgnpcgaa
