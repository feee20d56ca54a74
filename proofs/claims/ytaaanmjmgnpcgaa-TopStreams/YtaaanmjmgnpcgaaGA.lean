/- Package seqadj: parts as they lie in memory; lists of them copied. -/
import Derived.Test.YtaaanmjmgnpcgaaRh
import Derived.Test.YtaaanmjmgnpcgaaRt
import Derived.Test.YtaaanmjmgnpcgaaRx
import Derived.Deep.AppendLies
import Derived.Deep.Upon
namespace Go.Proofs.Ytaaanmjmgnpcgaa
open Go.RowKit Go.Shelf
set_option maxRecDepth 100000
set_option linter.unusedVariables false
set_option linter.unusedSimpArgs false

/-- A rule. -/
structure Pa where
  ws : Int
  we : Int
  is : Int
  ie : Int
  ta : Option Addr
  tn : Nat
  tc : Nat
def pac (r : Pa) : List Value := [.int .u32 r.ws, .int .u32 r.we, .int .u32 r.is, .int .u32 r.ie, .slice r.ta r.tn r.tc]
def zPa : Pa := ⟨0, 0, 0, 0, none, 0, 0⟩
def pas (l : List Pa) : List Value := l.flatMap pac
theorem pac_length (r : Pa) : (pac r).length = 5 := rfl
theorem pas_length (l : List Pa) : (pas l).length = l.length * 5 := by
  induction l with
  | nil => rfl
  | cons r l ih => unfold pas at ih ⊢; rw [List.flatMap_cons, List.length_append, ih, pac_length, List.length_cons]; omega
theorem pas_snoc (l : List Pa) (r : Pa) : pas (l ++ [r]) = pas l ++ pac r := by unfold pas; simp
theorem pas_append (l m : List Pa) : pas (l ++ m) = pas l ++ pas m := by unfold pas; simp
theorem pas_at : ∀ (l : List Pa) (j i : Nat) (hj : j < l.length), i < 5 → (pas l)[j * 5 + i]? = (pac l[j])[i]?
  | r :: l, 0, i, _, hi => by
    unfold pas
    rw [List.flatMap_cons, Nat.zero_mul, Nat.zero_add, List.getElem?_append_left (by rw [pac_length]; exact hi)]
    rfl
  | r :: l, j + 1, i, hj, hi => by
    have ih := pas_at l j i (by simpa using hj) hi
    unfold pas at ih ⊢
    rw [List.flatMap_cons, List.getElem?_append_right (by rw [pac_length]; omega), pac_length, show (j + 1) * 5 + i - 5 = j * 5 + i from by omega, ih]
    rfl
/-- Its numbers are of their types. -/
def wfP (r : Pa) : Prop := (0 ≤ r.ws ∧ r.ws ≤ 4294967295) ∧ (0 ≤ r.we ∧ r.we ≤ 4294967295) ∧ (0 ≤ r.is ∧ r.is ≤ 4294967295) ∧ (0 ≤ r.ie ∧ r.ie ≤ 4294967295)
/-- The slice value reads as these rules, all of it below block n₀. -/
def RdP (n₀ : Nat) (W : World) (sv : Value) (l : List Pa) : Prop :=
  (∃ a cap, sv = .slice a 0 cap ∧ l = [] ∧ cap ≤ 9223372036854775807 ∧ (a = none → cap = 0)) ∨
  ∃ b off cap, sv = .slice (some ⟨b, off, none⟩) l.length cap ∧ l ≠ [] ∧ l.length ≤ cap ∧ cap ≤ 9223372036854775807 ∧ b < n₀ ∧ ∀ j (hj : j < l.length), ∀ i, i < 5 → W.cell? ⟨b, off + j * 5 + i, none⟩ = (pac l[j])[i]?
theorem RdP.below {n₀ : Nat} {A B : World} (h : Below n₀ A B) {sv : Value} {l : List Pa} : RdP n₀ A sv l → RdP n₀ B sv l
  | .inl e => .inl e
  | .inr ⟨b, off, cap, e, hne, hl, hm, hb, hc⟩ => .inr ⟨b, off, cap, e, hne, hl, hm, hb, fun j hj i hi => (h.cell (p := ⟨b, off + j * 5 + i, none⟩) hb).trans (hc j hj i hi)⟩
theorem RdP.mono {n₀ n₁ : Nat} {A : World} (h : n₀ ≤ n₁) {sv : Value} {l : List Pa} : RdP n₀ A sv l → RdP n₁ A sv l
  | .inl e => .inl e
  | .inr ⟨b, off, cap, e, hne, hl, hm, hb, hc⟩ => .inr ⟨b, off, cap, e, hne, hl, hm, Nat.lt_of_lt_of_le hb h, hc⟩
theorem RdP.slice {n₀ : Nat} {A : World} {sv : Value} {l : List Pa} : RdP n₀ A sv l → ∃ a cap, sv = .slice a l.length cap ∧ l.length ≤ cap ∧ cap ≤ 9223372036854775807
  | .inl ⟨a, cap, e, hz, hm, _⟩ => ⟨a, cap, by rw [e, hz]; rfl, by rw [hz]; exact Nat.zero_le _, hm⟩
  | .inr ⟨b, off, cap, e, _, hl, hm, _⟩ => ⟨_, cap, e, hl, hm⟩
theorem RdP.cells {n₀ : Nat} {W : World} {sv : Value} {l : List Pa} (h : RdP n₀ W sv l) (hne : 0 < l.length) : ∃ b off cap, sv = .slice (some ⟨b, off, none⟩) l.length cap ∧ l.length ≤ cap ∧ cap ≤ 9223372036854775807 ∧ b < n₀ ∧ ∀ j (hj : j < l.length), ∀ i, i < 5 → W.cell? ⟨b, off + j * 5 + i, none⟩ = (pac l[j])[i]? := by
  rcases h with ⟨a, cap, _, rfl, _⟩ | ⟨b, off, cap, e, _, hl, hm, hb, hc⟩
  · simp at hne
  · exact ⟨b, off, cap, e, hl, hm, hb, hc⟩
/-- What one's own row of rules reads as. -/
theorem ownP_rd {base : Nat} {W : World} {v : Value} {l : List Pa} (h : W.ownsRow base 65 5 v l.length (pas l)) : RdP W.heap.size W v l := by
  obtain ⟨h1, ⟨rfl, h0⟩ | ⟨g, cap, cur, rfl, hg, hh, hl, hm, hs, hc⟩⟩ := h
  · have : l = [] := List.eq_nil_of_length_eq_zero h0
    subst this
    exact .inl ⟨none, 0, rfl, rfl, by omega, fun _ => rfl⟩
  · by_cases hn : l = []
    · subst hn
      exact .inl ⟨_, cap, rfl, rfl, by simpa [maxLen] using hm, fun h => by cases h⟩
    · refine .inr ⟨g, 0, cap, rfl, hn, hl, by simpa [maxLen] using hm, (Array.getElem?_eq_some_iff.1 hh).1, fun j hj i hi => ?_⟩
      rw [Nat.zero_add, block_cell hh, ← pas_at l j i hj hi, ← hc, List.getElem?_take_of_lt (by omega)]
      simp
theorem ownP_later {base : Nat} {A B : World} {v : Value} {n : Nat} {xs : List Value} (h : A.ownsRow base 65 5 v n xs) (l : Later A B) : B.ownsRow base 65 5 v n xs := by
  obtain ⟨h1, h2 | ⟨g, cap, cur, hv, hg, hh, r⟩⟩ := h
  · exact ⟨h1, .inl h2⟩
  · exact ⟨h1, .inr ⟨g, cap, cur, hv, hg, later_keep l hh, r⟩⟩
/-- Rules as they lie in memory: at block b, of type t, the list in a block of its own. -/
def SL (t : TypeId) (base : Nat) (W : World) (b : Nat) (v : Value) (l : List Pa) : Prop := base ≤ b ∧ W.heap[b]? = some (.cells #[v] t (0, 0)) ∧ W.ownsRow base 65 5 v l.length (pas l)
theorem SL.later {t : TypeId} {base : Nat} {A B : World} {b : Nat} {v : Value} {l : List Pa} (h : SL t base A b v l) (k : Later A B) : SL t base B b v l := ⟨h.1, later_keep k h.2.1, ownP_later h.2.2 k⟩
theorem SL.but {t : TypeId} {base : Nat} {A B : World} {b : Nat} {v : Value} {l : List Pa} {E : Nat → Prop} (h : SL t base A b v l) (k : But E A B) (hb : ¬ E b) (hv : ∀ g, v.ownBlock = some g → ¬ E g) : SL t base B b v l := by
  refine ⟨h.1, (k.block b (Array.getElem?_eq_some_iff.1 h.2.1).1 hb).trans h.2.1, ?_⟩
  obtain ⟨h1, h2 | ⟨g, cap, cur, e, hg, hh, r⟩⟩ := h.2.2
  · exact ⟨h1, .inl h2⟩
  · exact ⟨h1, .inr ⟨g, cap, cur, e, hg, (k.block g (Array.getElem?_eq_some_iff.1 hh).1 (hv g (by rw [e]; rfl))).trans hh, r⟩⟩
/-- The list's block is no object's. -/
theorem SL.ne {t t2 : TypeId} {base : Nat} {W : World} {b c : Nat} {v : Value} {l : List Pa} {cur : Array Value} (h : SL t base W b v l) (hc : W.heap[c]? = some (.cells cur t2 (0, 0))) (ht : t2 ≠ 65) : v.ownBlock ≠ some c := fun e => by
  obtain ⟨h1, ⟨hn, _⟩ | ⟨g, cap, cu, hv, hg, hh, r⟩⟩ := h.2.2
  · rw [hn] at e; cases e
  · rw [hv] at e
    cases e
    rw [hc] at hh
    simp at hh
    exact ht hh.2
theorem SL.lt {t : TypeId} {base : Nat} {W : World} {b : Nat} {v : Value} {l : List Pa} (h : SL t base W b v l) {g : Nat} (e : v.ownBlock = some g) : base ≤ g ∧ g < W.heap.size := by
  obtain ⟨h1, ⟨hn, _⟩ | ⟨g2, cap, cu, hv, hg, hh, r⟩⟩ := h.2.2
  · rw [hn] at e; cases e
  · rw [hv] at e
    cases e
    exact ⟨hg, (Array.getElem?_eq_some_iff.1 hh).1⟩
theorem SL.blt {t : TypeId} {base : Nat} {W : World} {b : Nat} {v : Value} {l : List Pa} (h : SL t base W b v l) : b < W.heap.size := (Array.getElem?_eq_some_iff.1 h.2.1).1

theorem info_part : (Try.prog.info? 65).map (fun i => (i.zero, i.size, i.bytes)) = some (some (.agg #[.int .u32 0, .int .u32 0, .int .u32 0, .int .u32 0, .slice none 0 0]), 5, 40) := by kernel_rfl

theorem info_partsP {P : Program} {t : TypeId} {z : Value} {a b : Nat} (h : (P.info? t).map (fun i => (i.zero, i.size, i.bytes)) = some (some z, a, b)) : ∃ i, P.info? t = some i ∧ i.zero = some z ∧ i.size = a ∧ i.bytes = b := by
  cases hi : P.info? t with
  | none => rw [hi] at h; cases h
  | some i => rw [hi] at h; simp at h; exact ⟨i, rfl, h.1, h.2.1, h.2.2⟩

theorem new_rowP (W : World) (x : Pa) : ∀ j u, (pac x)[j]? = some u → (W.alloc (.cells (pac x).toArray 65)).cell? ((⟨W.heap.size, 0, none⟩ : Addr).add j) = some u := fun j u hj => by
  rw [show (⟨W.heap.size, 0, none⟩ : Addr).add j = ⟨W.heap.size, j, none⟩ from by unfold Addr.add; split <;> simp_all, block_cell (heap_alloc_new W _) j]
  simpa using hj
/-- How a change of rules leaves them. -/
def SLq (t : TypeId) (base : Nat) (w w' : World) (b : Nat) (v : Value) (l : List Pa) : Prop := ∃ v', SL t base w' b v' l ∧ But (fun g => g = b ∨ v.ownBlock = some g) w w' ∧ (v'.ownBlock = v.ownBlock ∨ ∀ g, v'.ownBlock = some g → w.heap.size ≤ g)
theorem SLq.same {t : TypeId} {base : Nat} {w w' : World} {b : Nat} {v : Value} {l : List Pa} (h : SL t base w b v l) (k : Later w w') : SLq t base w w' b v l := ⟨v, h.later k, But.of k, .inl rfl⟩

theorem addr_add' (b off k : Nat) : (⟨b, off, none⟩ : Addr).add k = ⟨b, off + k, none⟩ := by unfold Addr.add; split <;> simp_all
theorem pas_one (l : List Pa) : ∀ u ∈ pas l, u.oneCell' = true := fun u hu => by
  obtain ⟨r, _, hr⟩ := List.mem_flatMap.1 hu
  simp only [pac, List.mem_cons, List.not_mem_nil, or_false] at hr
  rcases hr with rfl | rfl | rfl | rfl | rfl <;> rfl

/-- All of a list appended onto one's own. -/
theorem appP (w : World) (ty : TypeId) (base n₀ : Nat) (v : Value) (xs : List Pa) (sv : Value) (ys : List Pa) (hown : w.ownsRow base 65 5 v xs.length (pas xs)) (hI : RdP n₀ w sv ys) (hbase : base ≤ w.heap.size) (hs : xs.length + ys.length ≤ 10000) :
    ∃ v' w', (Builtin.append_ #[55, 55] ty #[v, sv]).run Try.prog w = .ok v' w' ∧ w'.ownsRow base 65 5 v' (xs ++ ys).length (pas (xs ++ ys)) ∧ w.grownBy w' v.ownBlock ∧ (v'.ownBlock = v.ownBlock ∨ v'.ownBlock = some w.heap.size) := by
  obtain ⟨i0, hi0, hz0, hz1, hz2⟩ := info_partsP info_part
  rcases hI with ⟨a, cap, rfl, rfl, hcm, ha⟩ | ⟨b, off, cap, rfl, hne, hl, hm, hb, hc⟩
  · obtain ⟨av, cv, rfl, hv1, hv2⟩ := (ownP_rd hown).slice
    refine ⟨_, w, run_append_nothing w _ _ ty _ i0 Try.underlying55 hi0 av xs.length cv hv1 (.slice a 0 cap) ?_, by rw [List.append_nil]; exact hown, ⟨rfl, rfl, rfl, Nat.le_refl _, fun _ _ _ => rfl⟩, .inl rfl⟩
    refine ⟨.inl ⟨_, Try.underlying55⟩, fun w' => ?_, ?_, ?_, by simp, by simp⟩ <;> cases a <;> simp [Builtin.lenOf, Builtin.firstCells, go_sem]
  · have hp : 0 < ys.length := List.length_pos_iff.2 hne
    obtain ⟨g, cap', w', hr, h2, h3, h4, h5⟩ := run_append_lies (P := Try.prog) w 55 ty base 65 i0 _ 5 40 Try.underlying55 hi0 hz0 hz1 hz2 rfl (by decide) v xs.length (pas xs) hown ⟨b, off, none⟩ ys.length cap (pas ys) (pas_length ys) (fun j u hj => by
      have hlt := (List.getElem?_eq_some_iff.1 hj).1
      rw [pas_length] at hlt
      rw [addr_add']
      have h1 := hc (j / 5) (by omega) (j % 5) (Nat.mod_lt _ (by omega))
      rw [← pas_at ys (j / 5) (j % 5) (by omega) (Nat.mod_lt _ (by omega)), show j / 5 * 5 + j % 5 = j from by omega, hj] at h1
      rw [← h1]
      congr 2
      omega) (pas_one ys) hp (by unfold maxLen; omega) (by omega) hbase _ rfl
    refine ⟨_, w', hr, by rw [List.length_append, pas_append]; exact h2, h3, ?_⟩
    rcases h4 with h4 | h4
    · exact .inl (by rw [h4]; rfl)
    · exact .inr (by rw [h4]; rfl)

theorem wpList_appv {P : Program} {ops : Array Oper} {rest : List Oper} {o : Oper} {a : Act} {Q : Exit → Act → World → Prop} {w : World} (hg : o.guard = none) (s x : Operand) (t : TypeId) (hop : o.op = Op.call { callee := Callee.builtin Builtin.append, args := #[s, x], argTypes := #[t, t] })
    (v sx : Value) (hs : a.eval s = v) (hx : a.eval x = sx) (v' : Value) (w' : World) (hrun : (Builtin.append_ #[t, t] o.type #[v, sx]).run P w = .ok v' w') (hk : wpList P ops Q rest (a.put o.dst v') w') : wpList P ops Q (o :: rest) a w :=
  wpList_plain hg fun K hK => wp_app s x t hop v sx hs hx v' w' hrun (hK _ _ hk)
theorem ownP_made (w : World) : (w.alloc (.cells #[] 65)).ownsRow w.heap.size 65 5 (.slice (some ⟨w.heap.size, 0, none⟩) 0 0) ([] : List Pa).length (pas []) :=
  ⟨rfl, .inr ⟨w.heap.size, 0, #[], rfl, Nat.le_refl _, heap_alloc_new w _, Nat.le_refl _, by unfold maxLen; omega, rfl, rfl⟩⟩
/-- A copy of a list in memory of its own. -/
theorem copyP (w : World) (ty : TypeId) (n₀ : Nat) (sv : Value) (ys : List Pa) (hI : RdP n₀ w sv ys) (hn : n₀ ≤ w.heap.size) (hs : ys.length ≤ 10000) :
    ∃ v' w', (Builtin.append_ #[55, 55] ty #[.slice (some ⟨w.heap.size, 0, none⟩) 0 0, sv]).run Try.prog (w.alloc (.cells #[] 65)) = .ok v' w' ∧ w'.ownsRow w.heap.size 65 5 v' ys.length (pas ys) ∧ Later w w' := by
  have la : Later w (w.alloc (.cells #[] 65)) := (Below.refl _ _).alloc (Nat.le_refl _) _
  obtain ⟨v', w', h1, h2, h3, h4⟩ := appP (w.alloc (.cells #[] 65)) ty w.heap.size n₀ _ [] sv ys (ownP_made w) (hI.below (la.mono hn)) la.size (by simpa using hs)
  refine ⟨v', w', h1, by simpa using h2, ?_⟩
  exact Below.trans la ⟨h3.os, h3.tape, h3.output, h3.size, fun k hk => h3.block k (by simp; omega) (fun e => by simp [Value.ownBlock] at e; omega)⟩

set_option maxHeartbeats 2000000 in
theorem cloneP_any (base : Nat) (v : Value) (l : List Pa) (w : World) (hO : w.ownsRow base 65 5 v l.length (pas l)) (hl : l.length ≤ 5000) :
    Calls Try.prog 38 #[v] w fun e w' => Later w w' ∧ ∃ v', e = .returned v' ∧ w'.ownsRow w.heap.size 65 5 v' l.length (pas l) := by
  obtain ⟨u, W1, hrun, hrow, hlat⟩ := copyP w 55 w.heap.size v l (ownP_rd hO) (Nat.le_refl _) (by omega)
  obtain ⟨av, cv, rfl, _, _⟩ := (ownP_rd hO).slice
  obtain ⟨au, cu, rfl, _, _⟩ := (ownP_rd hrow).slice
  have HRUN := hide hrun
  have HROW := hide hrow
  have HO := hide hO
  clear hrun hrow hO
  go_enter Try.func38, Try.ntmps38
  cases av with
  | none =>
    go_wp2_with fail
    rw [Go.Lib.run_eql_slice_nil _ _ _ _ _ _ _ _ Try.underlying55]
    go_wp2_with fail
    go_ret
    have : l.length = 0 := by
      obtain ⟨_, ⟨e, e2⟩ | ⟨g2, cap2, cur, e, _⟩⟩ := HO.out
      · exact e2
      · cases e
    refine ⟨Later.refl _, _, rfl, ?_⟩
    obtain rfl := List.eq_nil_of_length_eq_zero this
    exact ⟨rfl, .inl ⟨rfl, rfl⟩⟩
  | some a =>
    go_wp2_with fail
    rw [Go.Lib.run_eql_slice_nil _ _ _ _ _ _ _ _ Try.underlying55]
    go_wp2_with (at_builtin; refine wpList_appv rfl (.tmp 5) (.tmp 6) 55 rfl _ _ rfl rfl _ W1 HRUN.out ?_)
    go_ret
    exact ⟨hlat, _, rfl, HROW.out⟩

end Go.Proofs.Ytaaanmjmgnpcgaa
