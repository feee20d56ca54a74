/- Several texts in one. -/
import Derived.Test.YtohflohdbkamnaaGreatDoorX11
import Derived.Test.YtohflohdbkamnaaGreatDoorX10
import Derived.Deep.AppendLies
import Derived.Deep.Upon
import Derived.Deep.DeepCutAuto
import Derived.Deep.CutBlock
import Derived.Test.YtohflohdbkamnaaGreatDoorW4
/- Package expect: expected flows as they lie in memory; lists of them copied. -/
namespace Go.Proofs.YtohflohdbkamnaaGreatDoor
open Go.RowKit Go.Shelf
set_option maxRecDepth 100000
set_option linter.unusedVariables false
set_option linter.unusedSimpArgs false

/-- A rule. -/
structure Ex where
  pr : Int
  src : Int
  dst : Int
  sp : Int
  dp : Int
  host : Int
  hp : Int
  ms : Int
  dl : Int
deriving DecidableEq
def exc (r : Ex) : List Value := [.int .u8 r.pr, .int .u32 r.src, .int .u32 r.dst, .int .u16 r.sp, .int .u16 r.dp, .int .u32 r.host, .int .u16 r.hp, .int .i64 r.ms, .int .i64 r.dl]
def zEx : Ex := ⟨0, 0, 0, 0, 0, 0, 0, 0, 0⟩
def exs (l : List Ex) : List Value := l.flatMap exc
theorem exc_length (r : Ex) : (exc r).length = 9 := rfl
theorem exs_length (l : List Ex) : (exs l).length = l.length * 9 := by
  induction l with
  | nil => rfl
  | cons r l ih => unfold exs at ih ⊢; rw [List.flatMap_cons, List.length_append, ih, exc_length, List.length_cons]; omega
theorem exs_append (l m : List Ex) : exs (l ++ m) = exs l ++ exs m := by unfold exs; simp
theorem exs_at : ∀ (l : List Ex) (j i : Nat) (hj : j < l.length), i < 9 → (exs l)[j * 9 + i]? = (exc l[j])[i]?
  | r :: l, 0, i, _, hi => by
    unfold exs
    rw [List.flatMap_cons, Nat.zero_mul, Nat.zero_add, List.getElem?_append_left (by rw [exc_length]; exact hi)]
    rfl
  | r :: l, j + 1, i, hj, hi => by
    have ih := exs_at l j i (by simpa using hj) hi
    unfold exs at ih ⊢
    rw [List.flatMap_cons, List.getElem?_append_right (by rw [exc_length]; omega), exc_length, show (j + 1) * 9 + i - 9 = j * 9 + i from by omega, ih]
    rfl
/-- The slice value reads as these rules, all of it below block n₀. -/
def RdV (n₀ : Nat) (W : World) (sv : Value) (l : List Ex) : Prop :=
  (∃ a cap, sv = .slice a 0 cap ∧ l = [] ∧ cap ≤ 9223372036854775807 ∧ (a = none → cap = 0)) ∨
  ∃ b off cap, sv = .slice (some ⟨b, off, none⟩) l.length cap ∧ l ≠ [] ∧ l.length ≤ cap ∧ cap ≤ 9223372036854775807 ∧ b < n₀ ∧ ∀ j (hj : j < l.length), ∀ i, i < 9 → W.cell? ⟨b, off + j * 9 + i, none⟩ = (exc l[j])[i]?
theorem RdV.below {n₀ : Nat} {A B : World} (h : Below n₀ A B) {sv : Value} {l : List Ex} : RdV n₀ A sv l → RdV n₀ B sv l
  | .inl e => .inl e
  | .inr ⟨b, off, cap, e, hne, hl, hm, hb, hc⟩ => .inr ⟨b, off, cap, e, hne, hl, hm, hb, fun j hj i hi => (h.cell (p := ⟨b, off + j * 9 + i, none⟩) hb).trans (hc j hj i hi)⟩
theorem RdV.mono {n₀ n₁ : Nat} {A : World} (h : n₀ ≤ n₁) {sv : Value} {l : List Ex} : RdV n₀ A sv l → RdV n₁ A sv l
  | .inl e => .inl e
  | .inr ⟨b, off, cap, e, hne, hl, hm, hb, hc⟩ => .inr ⟨b, off, cap, e, hne, hl, hm, Nat.lt_of_lt_of_le hb h, hc⟩
theorem RdV.slice {n₀ : Nat} {A : World} {sv : Value} {l : List Ex} : RdV n₀ A sv l → ∃ a cap, sv = .slice a l.length cap ∧ l.length ≤ cap ∧ cap ≤ 9223372036854775807
  | .inl ⟨a, cap, e, hz, hm, _⟩ => ⟨a, cap, by rw [e, hz]; rfl, by rw [hz]; exact Nat.zero_le _, hm⟩
  | .inr ⟨b, off, cap, e, _, hl, hm, _⟩ => ⟨_, cap, e, hl, hm⟩
theorem RdV.cells {n₀ : Nat} {W : World} {sv : Value} {l : List Ex} (h : RdV n₀ W sv l) (hne : 0 < l.length) : ∃ b off cap, sv = .slice (some ⟨b, off, none⟩) l.length cap ∧ l.length ≤ cap ∧ cap ≤ 9223372036854775807 ∧ b < n₀ ∧ ∀ j (hj : j < l.length), ∀ i, i < 9 → W.cell? ⟨b, off + j * 9 + i, none⟩ = (exc l[j])[i]? := by
  rcases h with ⟨a, cap, _, rfl, _⟩ | ⟨b, off, cap, e, _, hl, hm, hb, hc⟩
  · simp at hne
  · exact ⟨b, off, cap, e, hl, hm, hb, hc⟩
/-- What one's own row of rules reads as. -/
theorem ownE_rd {base : Nat} {W : World} {v : Value} {l : List Ex} (h : W.ownsRow base 136 9 v l.length (exs l)) : RdV W.heap.size W v l := by
  obtain ⟨h1, ⟨rfl, h0⟩ | ⟨g, cap, cur, rfl, hg, hh, hl, hm, hs, hc⟩⟩ := h
  · have : l = [] := List.eq_nil_of_length_eq_zero h0
    subst this
    exact .inl ⟨none, 0, rfl, rfl, by omega, fun _ => rfl⟩
  · by_cases hn : l = []
    · subst hn
      exact .inl ⟨_, cap, rfl, rfl, by simpa [maxLen] using hm, fun h => by cases h⟩
    · refine .inr ⟨g, 0, cap, rfl, hn, hl, by simpa [maxLen] using hm, (Array.getElem?_eq_some_iff.1 hh).1, fun j hj i hi => ?_⟩
      rw [Nat.zero_add, block_cell hh, ← exs_at l j i hj hi, ← hc, List.getElem?_take_of_lt (by omega)]
      simp
theorem ownE_later {base : Nat} {A B : World} {v : Value} {n : Nat} {xs : List Value} (h : A.ownsRow base 136 9 v n xs) (l : Later A B) : B.ownsRow base 136 9 v n xs := by
  obtain ⟨h1, h2 | ⟨g, cap, cur, hv, hg, hh, r⟩⟩ := h
  · exact ⟨h1, .inl h2⟩
  · exact ⟨h1, .inr ⟨g, cap, cur, hv, hg, later_keep l hh, r⟩⟩
/-- Rules as they lie in memory: at block b, of type t, the list in a block of its own. -/
def BL (t : TypeId) (base : Nat) (W : World) (b : Nat) (v : Value) (l : List Ex) : Prop := base ≤ b ∧ W.heap[b]? = some (.cells #[v] t (0, 0)) ∧ W.ownsRow base 136 9 v l.length (exs l)
theorem BL.later {t : TypeId} {base : Nat} {A B : World} {b : Nat} {v : Value} {l : List Ex} (h : BL t base A b v l) (k : Later A B) : BL t base B b v l := ⟨h.1, later_keep k h.2.1, ownE_later h.2.2 k⟩
theorem BL.but {t : TypeId} {base : Nat} {A B : World} {b : Nat} {v : Value} {l : List Ex} {E : Nat → Prop} (h : BL t base A b v l) (k : But E A B) (hb : ¬ E b) (hv : ∀ g, v.ownBlock = some g → ¬ E g) : BL t base B b v l := by
  refine ⟨h.1, (k.block b (Array.getElem?_eq_some_iff.1 h.2.1).1 hb).trans h.2.1, ?_⟩
  obtain ⟨h1, h2 | ⟨g, cap, cur, e, hg, hh, r⟩⟩ := h.2.2
  · exact ⟨h1, .inl h2⟩
  · exact ⟨h1, .inr ⟨g, cap, cur, e, hg, (k.block g (Array.getElem?_eq_some_iff.1 hh).1 (hv g (by rw [e]; rfl))).trans hh, r⟩⟩
/-- The list's block is no object's. -/
theorem BL.ne {t t2 : TypeId} {base : Nat} {W : World} {b c : Nat} {v : Value} {l : List Ex} {cur : Array Value} (h : BL t base W b v l) (hc : W.heap[c]? = some (.cells cur t2 (0, 0))) (ht : t2 ≠ 136) : v.ownBlock ≠ some c := fun e => by
  obtain ⟨h1, ⟨hn, _⟩ | ⟨g, cap, cu, hv, hg, hh, r⟩⟩ := h.2.2
  · rw [hn] at e; cases e
  · rw [hv] at e
    cases e
    rw [hc] at hh
    simp at hh
    exact ht hh.2
theorem BL.lt {t : TypeId} {base : Nat} {W : World} {b : Nat} {v : Value} {l : List Ex} (h : BL t base W b v l) {g : Nat} (e : v.ownBlock = some g) : base ≤ g ∧ g < W.heap.size := by
  obtain ⟨h1, ⟨hn, _⟩ | ⟨g2, cap, cu, hv, hg, hh, r⟩⟩ := h.2.2
  · rw [hn] at e; cases e
  · rw [hv] at e
    cases e
    exact ⟨hg, (Array.getElem?_eq_some_iff.1 hh).1⟩
theorem BL.blt {t : TypeId} {base : Nat} {W : World} {b : Nat} {v : Value} {l : List Ex} (h : BL t base W b v l) : b < W.heap.size := (Array.getElem?_eq_some_iff.1 h.2.1).1

theorem info_exp : (Tryz.prog.info? 136).map (fun i => (i.zero, i.size, i.bytes)) = some (some (.agg #[.int .u8 0, .int .u32 0, .int .u32 0, .int .u16 0, .int .u16 0, .int .u32 0, .int .u16 0, .int .i64 0, .int .i64 0]), 9, 40) := by kernel_rfl

theorem info_partsE {P : Program} {t : TypeId} {z : Value} {a b : Nat} (h : (P.info? t).map (fun i => (i.zero, i.size, i.bytes)) = some (some z, a, b)) : ∃ i, P.info? t = some i ∧ i.zero = some z ∧ i.size = a ∧ i.bytes = b := by
  cases hi : P.info? t with
  | none => rw [hi] at h; cases h
  | some i => rw [hi] at h; simp at h; exact ⟨i, rfl, h.1, h.2.1, h.2.2⟩

/-- How a change of rules leaves them. -/
def BLq (t : TypeId) (base : Nat) (w w' : World) (b : Nat) (v : Value) (l : List Ex) : Prop := ∃ v', BL t base w' b v' l ∧ But (fun g => g = b ∨ v.ownBlock = some g) w w' ∧ (v'.ownBlock = v.ownBlock ∨ ∀ g, v'.ownBlock = some g → w.heap.size ≤ g)
theorem BLq.same {t : TypeId} {base : Nat} {w w' : World} {b : Nat} {v : Value} {l : List Ex} (h : BL t base w b v l) (k : Later w w') : BLq t base w w' b v l := ⟨v, h.later k, But.of k, .inl rfl⟩

theorem addr_add' (b off k : Nat) : (⟨b, off, none⟩ : Addr).add k = ⟨b, off + k, none⟩ := by unfold Addr.add; split <;> simp_all
theorem exs_one (l : List Ex) : ∀ u ∈ exs l, u.oneCell' = true := fun u hu => by
  obtain ⟨r, _, hr⟩ := List.mem_flatMap.1 hu
  simp only [exc, List.mem_cons, List.not_mem_nil, or_false] at hr
  rcases hr with rfl | rfl | rfl | rfl | rfl | rfl | rfl | rfl | rfl <;> rfl

/-- All of a list appended onto one's own. -/
theorem appE (w : World) (ty : TypeId) (base n₀ : Nat) (v : Value) (xs : List Ex) (sv : Value) (ys : List Ex) (hown : w.ownsRow base 136 9 v xs.length (exs xs)) (hI : RdV n₀ w sv ys) (hbase : base ≤ w.heap.size) (hs : xs.length + ys.length ≤ 10000) :
    ∃ v' w', (Builtin.append_ #[42, 42] ty #[v, sv]).run Tryz.prog w = .ok v' w' ∧ w'.ownsRow base 136 9 v' (xs ++ ys).length (exs (xs ++ ys)) ∧ w.grownBy w' v.ownBlock ∧ (v'.ownBlock = v.ownBlock ∨ v'.ownBlock = some w.heap.size) := by
  obtain ⟨i0, hi0, hz0, hz1, hz2⟩ := info_partsE info_exp
  rcases hI with ⟨a, cap, rfl, rfl, hcm, ha⟩ | ⟨b, off, cap, rfl, hne, hl, hm, hb, hc⟩
  · obtain ⟨av, cv, rfl, hv1, hv2⟩ := (ownE_rd hown).slice
    refine ⟨_, w, run_append_nothing w _ _ ty _ i0 Tryz.underlying42 hi0 av xs.length cv hv1 (.slice a 0 cap) ?_, by rw [List.append_nil]; exact hown, ⟨rfl, rfl, rfl, Nat.le_refl _, fun _ _ _ => rfl⟩, .inl rfl⟩
    refine ⟨.inl ⟨_, Tryz.underlying42⟩, fun w' => ?_, ?_, ?_, by simp, by simp⟩ <;> cases a <;> simp [Builtin.lenOf, Builtin.firstCells, go_sem]
  · have hp : 0 < ys.length := List.length_pos_iff.2 hne
    obtain ⟨g, cap', w', hr, h2, h3, h4, h5⟩ := run_append_lies (P := Tryz.prog) w 42 ty base 136 i0 _ 9 40 Tryz.underlying42 hi0 hz0 hz1 hz2 rfl (by decide) v xs.length (exs xs) hown ⟨b, off, none⟩ ys.length cap (exs ys) (exs_length ys) (fun j u hj => by
      have hlt := (List.getElem?_eq_some_iff.1 hj).1
      rw [exs_length] at hlt
      rw [addr_add']
      have h1 := hc (j / 9) (by omega) (j % 9) (Nat.mod_lt _ (by omega))
      rw [← exs_at ys (j / 9) (j % 9) (by omega) (Nat.mod_lt _ (by omega)), show j / 9 * 9 + j % 9 = j from by omega, hj] at h1
      rw [← h1]
      congr 2
      omega) (exs_one ys) hp (by unfold maxLen; omega) (by omega) hbase _ rfl
    refine ⟨_, w', hr, by rw [List.length_append, exs_append]; exact h2, h3, ?_⟩
    rcases h4 with h4 | h4
    · exact .inl (by rw [h4]; rfl)
    · exact .inr (by rw [h4]; rfl)

theorem wpList_appv {P : Program} {ops : Array Oper} {rest : List Oper} {o : Oper} {a : Act} {Q : Exit → Act → World → Prop} {w : World} (hg : o.guard = none) (s x : Operand) (t : TypeId) (hop : o.op = Op.call { callee := Callee.builtin Builtin.append, args := #[s, x], argTypes := #[t, t] })
    (v sx : Value) (hs : a.eval s = v) (hx : a.eval x = sx) (v' : Value) (w' : World) (hrun : (Builtin.append_ #[t, t] o.type #[v, sx]).run P w = .ok v' w') (hk : wpList P ops Q rest (a.put o.dst v') w') : wpList P ops Q (o :: rest) a w :=
  wpList_plain hg fun K hK => wp_app s x t hop v sx hs hx v' w' hrun (hK _ _ hk)
theorem ownE_made (w : World) : (w.alloc (.cells #[] 136)).ownsRow w.heap.size 136 9 (.slice (some ⟨w.heap.size, 0, none⟩) 0 0) ([] : List Ex).length (exs []) :=
  ⟨rfl, .inr ⟨w.heap.size, 0, #[], rfl, Nat.le_refl _, heap_alloc_new w _, Nat.le_refl _, by unfold maxLen; omega, rfl, rfl⟩⟩
/-- A copy of a list in memory of its own. -/
theorem copyE (w : World) (ty : TypeId) (n₀ : Nat) (sv : Value) (ys : List Ex) (hI : RdV n₀ w sv ys) (hn : n₀ ≤ w.heap.size) (hs : ys.length ≤ 10000) :
    ∃ v' w', (Builtin.append_ #[42, 42] ty #[.slice (some ⟨w.heap.size, 0, none⟩) 0 0, sv]).run Tryz.prog (w.alloc (.cells #[] 136)) = .ok v' w' ∧ w'.ownsRow w.heap.size 136 9 v' ys.length (exs ys) ∧ Later w w' := by
  have la : Later w (w.alloc (.cells #[] 136)) := (Below.refl _ _).alloc (Nat.le_refl _) _
  obtain ⟨v', w', h1, h2, h3, h4⟩ := appE (w.alloc (.cells #[] 136)) ty w.heap.size n₀ _ [] sv ys (ownE_made w) (hI.below (la.mono hn)) la.size (by simpa using hs)
  refine ⟨v', w', h1, by simpa using h2, ?_⟩
  exact Below.trans la ⟨h3.os, h3.tape, h3.output, h3.size, fun k hk => h3.block k (by simp; omega) (fun e => by simp [Value.ownBlock] at e; omega)⟩

set_option maxHeartbeats 2000000 in
theorem clone12_any (base : Nat) (v : Value) (l : List Ex) (w : World) (hO : w.ownsRow base 136 9 v l.length (exs l)) (hl : l.length ≤ 5000) :
    Calls Tryz.prog 72 #[v] w fun e w' => Later w w' ∧ ∃ v', e = .returned v' ∧ w'.ownsRow w.heap.size 136 9 v' l.length (exs l) := by
  obtain ⟨u, W1, hrun, hrow, hlat⟩ := copyE w 42 w.heap.size v l (ownE_rd hO) (Nat.le_refl _) (by omega)
  obtain ⟨av, cv, rfl, _, _⟩ := (ownE_rd hO).slice
  obtain ⟨au, cu, rfl, _, _⟩ := (ownE_rd hrow).slice
  have HRUN := hide hrun
  have HROW := hide hrow
  have HO := hide hO
  clear hrun hrow hO
  go_enter Tryz.func72, Tryz.ntmps72
  cases av with
  | none =>
    go_wp2_with fail
    rw [Go.Lib.run_eql_slice_nil _ _ _ _ _ _ _ _ Tryz.underlying42]
    go_wp2_with fail
    go_ret
    have : l.length = 0 := by
      obtain ⟨_, ⟨e, e2⟩ | ⟨g2, cap2, cur, e, _⟩⟩ := HO.out
      · exact e2
      · cases e
    refine ⟨Later.refl _, _, rfl, ?_⟩
    obtain rfl := List.eq_nil_of_length_eq_zero this
    exact ⟨rfl, .inl ⟨rfl, rfl⟩⟩
  | some a =>
    go_wp2_with fail
    rw [Go.Lib.run_eql_slice_nil _ _ _ _ _ _ _ _ Tryz.underlying42]
    go_wp2_with (at_builtin; refine wpList_appv rfl (.tmp 5) (.tmp 6) 42 rfl _ _ rfl rfl _ W1 HRUN.out ?_)
    go_ret
    exact ⟨hlat, _, rfl, HROW.out⟩

end Go.Proofs.YtohflohdbkamnaaGreatDoor

/- Package expect: which flows are right, alike, fit; the closures. -/
namespace Go.Proofs.YtohflohdbkamnaaGreatDoor
open Go.RowKit Go.Shelf
set_option maxRecDepth 100000
set_option linter.unusedVariables false
set_option linter.unusedSimpArgs false

/-- A tuple. -/
structure Tu where
  pr : Int
  src : Int
  dst : Int
  sp : Int
  dp : Int
deriving DecidableEq
def tuc (t : Tu) : List Value := [.int .u8 t.pr, .int .u32 t.src, .int .u32 t.dst, .int .u16 t.sp, .int .u16 t.dp]
def ftX (t : Tu) (e : Ex) : Bool := decide (t.pr = e.pr) && (decide (t.dst = e.dst) && (decide (t.dp = e.dp) && (decide (e.src = 0) || decide (t.src = e.src))))
def pkX (t : Tu) (now : Int) (e : Ex) : Bool := ftX t e && decide (now < e.dl)

set_option maxHeartbeats 4000000 in
theorem fits12_any (t : Tu) (e : Ex) (w : World) : Calls Tryz.prog 271 #[.agg (tuc t).toArray, .agg (exc e).toArray] w fun en w' => en = .returned (.bool (ftX t e)) ∧ Later w w' := by
  obtain ⟨tp, ts, td, ta, tb⟩ := t
  obtain ⟨pr, src, dst, sp, dp, host, hp, ms, dl⟩ := e
  unfold exc tuc ftX
  simp only
  have lb0 : Later w ((w.alloc (.cells #[.int .u8 tp, .int .u32 ts, .int .u32 td, .int .u16 ta, .int .u16 tb] 69)).alloc (.cells #[.int .u8 pr, .int .u32 src, .int .u32 dst, .int .u16 sp, .int .u16 dp, .int .u32 host, .int .u16 hp, .int .i64 ms, .int .i64 dl] 136)) := ((Below.refl _ _).alloc (Nat.le_refl _) _).alloc (by simp) _
  have c0 : ((w.alloc (.cells #[.int .u8 tp, .int .u32 ts, .int .u32 td, .int .u16 ta, .int .u16 tb] 69)).alloc (.cells #[.int .u8 pr, .int .u32 src, .int .u32 dst, .int .u16 sp, .int .u16 dp, .int .u32 host, .int .u16 hp, .int .i64 ms, .int .i64 dl] 136)).heap[w.heap.size]? = _ := (Below.heap_alloc _ _ _ (by simp)).trans (heap_alloc_new w _)
  have c1 : ((w.alloc (.cells #[.int .u8 tp, .int .u32 ts, .int .u32 td, .int .u16 ta, .int .u16 tb] 69)).alloc (.cells #[.int .u8 pr, .int .u32 src, .int .u32 dst, .int .u16 sp, .int .u16 dp, .int .u32 host, .int .u16 hp, .int .i64 ms, .int .i64 dl] 136)).heap[w.heap.size + 1]? = some (.cells #[.int .u8 pr, .int .u32 src, .int .u32 dst, .int .u16 sp, .int .u16 dp, .int .u32 host, .int .u16 hp, .int .i64 ms, .int .i64 dl] 136) := by
    have := heap_alloc_new (w.alloc (.cells #[.int .u8 tp, .int .u32 ts, .int .u32 td, .int .u16 ta, .int .u16 tb] 69)) (.cells #[.int .u8 pr, .int .u32 src, .int .u32 dst, .int .u16 sp, .int .u16 dp, .int .u32 host, .int .u16 hp, .int .i64 ms, .int .i64 dl] 136)
    rwa [World.size_alloc] at this
  have k0 := block_cell c0
  have k1 := block_cell c1
  clear c0 c1
  go_enter Tryz.func271, Tryz.ntmps271
  go_upto_region 1 with fail
  generalize (w.alloc _).alloc _ = w0 at *
  by_cases e1 : tp = pr
  · subst e1
    by_cases e2 : td = dst
    · subst e2
      by_cases e3 : tb = dp
      · subst e3
        by_cases e4 : src = 0
        · subst e4
          go_wp2_with fail
          go_ret
          exact ⟨by simp, lb0⟩
        · by_cases e5 : ts = src
          · subst e5
            go_wp2_with fail
            go_ret
            exact ⟨by simp, lb0⟩
          · go_wp2_with fail
            go_ret
            exact ⟨by simp [*], lb0⟩
      · go_wp2_with fail
        go_ret
        exact ⟨by simp [*], lb0⟩
    · go_wp2_with fail
      go_ret
      exact ⟨by simp [*], lb0⟩
  · go_wp2_with fail
    go_ret
    exact ⟨by simp [*], lb0⟩

set_option maxHeartbeats 4000000 in
theorem peek1_any (x : Ex) (t : Tu) (now : Int) (tb nb : Nat) (w : World) (hc1 : w.heap[tb]? = some (.cells (tuc t).toArray 69 (0, 0))) (hc2 : w.cell? ⟨nb, 0, none⟩ = some (.int .i64 now)) :
    Calls Tryz.prog 270 #[.agg (exc x).toArray, .pointer (some ⟨tb, 0, none⟩), .pointer (some ⟨nb, 0, none⟩)] w fun en w' => en = .returned (.bool (pkX t now x)) ∧ Later w w' := by
  have HF := hide (fun W => fits12_any t x W)
  have HQ : Hid (pkX t now x = (ftX t x && decide (now < x.dl))) := rfl
  rw [HQ.out]
  clear HQ
  generalize ftX t x = q at *
  obtain ⟨tp, ts, td, ta, tq⟩ := t
  obtain ⟨pr, src, dst, sp, dp, host, hp, ms, dl⟩ := x
  unfold exc tuc at *
  simp only at *
  have lb0 : Later w (w.alloc (.cells #[.int .u8 pr, .int .u32 src, .int .u32 dst, .int .u16 sp, .int .u16 dp, .int .u32 host, .int .u16 hp, .int .i64 ms, .int .i64 dl] 136)) := (Below.refl _ _).alloc (Nat.le_refl _) _
  have c0 := heap_alloc_new w (.cells #[.int .u8 pr, .int .u32 src, .int .u32 dst, .int .u16 sp, .int .u16 dp, .int .u32 host, .int .u16 hp, .int .i64 ms, .int .i64 dl] 136)
  have k0 := block_cell c0
  have d1 := block_cell (later_keep lb0 hc1)
  have d2 := lb0.cell hc2
  clear hc1 hc2
  go_enter Tryz.func270, Tryz.ntmps270
  go_wp2_with fail
  generalize w.alloc (.cells #[.int .u8 pr, .int .u32 src, .int .u32 dst, .int .u16 sp, .int .u16 dp, .int .u32 host, .int .u16 hp, .int .i64 ms, .int .i64 dl] 136) = w0 at *
  refine (HF.out w0).mono ?_
  rintro e w1 ⟨rfl, l1⟩
  have L1 : Later w w1 := lb0.trans l1
  have k1 := block_cell (later_keep l1 c0)
  have d3 := l1.cell d2
  clear k0 c0 HF d1 d2
  cases q with
  | false =>
    go_wp2_with fail
    go_ret
    exact ⟨by simp, L1⟩
  | true =>
    go_wp2_with fail
    go_ret
    exact ⟨by simp, L1⟩

set_option maxHeartbeats 2000000 in
theorem due1_any (y : Ex) (m : Int) (mb : Nat) (w : World) (hc : w.cell? ⟨mb, 0, none⟩ = some (.int .i64 m)) :
    Calls Tryz.prog 59 #[.agg (exc y).toArray, .pointer (some ⟨mb, 0, none⟩)] w fun e w' => e = .returned (.bool (decide (y.dl ≤ m))) ∧ Later w w' := by
  obtain ⟨pr, src, dst, sp, dp, host, hp, ms, dl⟩ := y
  unfold exc at *
  simp only at *
  have lb0 : Later w (w.alloc (.cells #[.int .u8 pr, .int .u32 src, .int .u32 dst, .int .u16 sp, .int .u16 dp, .int .u32 host, .int .u16 hp, .int .i64 ms, .int .i64 dl] 136)) := (Below.refl _ _).alloc (Nat.le_refl _) _
  have c0 := block_cell (heap_alloc_new w (.cells #[.int .u8 pr, .int .u32 src, .int .u32 dst, .int .u16 sp, .int .u16 dp, .int .u32 host, .int .u16 hp, .int .i64 ms, .int .i64 dl] 136))
  have cx := lb0.cell hc
  clear hc
  go_enter Tryz.func59, Tryz.ntmps59
  go_upto_region 1 with fail
  generalize w.alloc (.cells #[.int .u8 pr, .int .u32 src, .int .u32 dst, .int .u16 sp, .int .u16 dp, .int .u32 host, .int .u16 hp, .int .i64 ms, .int .i64 dl] 136) = w0 at *
  go_wp2_with fail
  all_goals go_ret
  all_goals exact ⟨by first | rfl | simp_all, lb0⟩
end Go.Proofs.YtohflohdbkamnaaGreatDoor

/- Package expect: the first that is wanted; those that are and the others. -/
namespace Go.Proofs.YtohflohdbkamnaaGreatDoor
open Go.RowKit Go.Shelf
set_option maxRecDepth 100000
set_option linter.unusedVariables false
set_option linter.unusedSimpArgs false

/-- What is told of the first that is wanted. -/
def ixP (q : Ex → Bool) (l : List Ex) (e : Ending) : Prop := (∃ k, ∃ h : k < l.length, e = .returned (.int .i64 (k : Int)) ∧ q l[k] = true ∧ ∀ x ∈ l.take k, q x = false) ∨ (e = .returned (.int .i64 (-1)) ∧ ∀ x ∈ l, q x = false)

set_option maxHeartbeats 4000000 in
theorem index12_any (n₀ cf : Nat) (lb : Array Value) (v : Value) (l : List Ex) (q : Ex → Bool) (w : World) (hR : RdV n₀ w v l) (hn : n₀ ≤ w.heap.size) (hl : l.length ≤ 5000)
    (eg : ∀ args w, (callFunc cf args).run Tryz.prog w = .ok (.enter cf args) w)
    (hcl : ∀ x ∈ l, ∀ W, Later w W → Calls Tryz.prog cf (#[.agg (exc x).toArray] ++ lb) W fun e W' => e = .returned (.bool (q x)) ∧ Later W W') :
    Calls Tryz.prog 269 #[v, .func (.func cf) #[] lb] w fun e w' => ixP q l e ∧ Later w w' := by
  obtain ⟨sa, cap, rfl, hc1, hc2⟩ := hR.slice
  have HR := hide hR
  have HCL := hide hcl
  have HEG := hide eg
  have hli : (l.length : Int) ≤ 5000 := by omega
  clear hR hcl eg
  go_enter Tryz.func269, Tryz.ntmps269
  go_wp2_with fail
  go_loopw [8] (fun i wr => ∃ k : Nat, k ≤ l.length ∧ i = .int .i64 (k : Int) ∧ (∀ x ∈ l.take k, q x = false) ∧ Later w wr) (fun i _ => l.length - (intOf i).toNat)
  case atStart => exact ⟨0, by omega, rfl, by simp, Later.refl _⟩
  case round =>
    obtain ⟨k, hk, rfl, hno, lr⟩ := hrel
    have HNO := hide hno
    clear hno
    by_cases hkl : k < l.length
    · obtain ⟨g, off, cp, e, _, _, hgn, hcs⟩ := (HR.out.below (lr.mono hn)).cells (by omega)
      simp at e
      obtain ⟨rfl, rfl⟩ := e
      have c0 := hcs k hkl 0 (by omega)
      have c1 := hcs k hkl 1 (by omega)
      have c2 := hcs k hkl 2 (by omega)
      have c3 := hcs k hkl 3 (by omega)
      have c4 := hcs k hkl 4 (by omega)
      have c5 := hcs k hkl 5 (by omega)
      have c6 := hcs k hkl 6 (by omega)
      have c7 := hcs k hkl 7 (by omega)
      have c8 := hcs k hkl 8 (by omega)
      have hkl' : (k : Int) < l.length := by omega
      have htk : l.take (k + 1) = l.take k ++ [l[k]] := (List.take_append_getElem hkl).symm
      have HTK := hide htk
      have HAT : Hid (∃ h : k < l.length, l[k] = l[k]) := ⟨hkl, rfl⟩
      have HC := hide (HCL.out l[k] (List.getElem_mem hkl) wr lr)
      have HG : Hid (∀ b, q l[k] = b → q l[k] = b) := fun b h => h
      clear hcs htk
      cases hq : q l[k] with
      | true =>
        rw [hq] at HC
        have HF : Hid (ixP q l (.returned (.int .i64 (k : Int)))) := .inl ⟨k, hkl, rfl, hq, HNO.out⟩
        clear HTK HAT HG hq
        generalize l[k] = r at *
        simp only [exc, List.getElem?_cons_zero, List.getElem?_cons_succ, Nat.add_zero] at c0 c1 c2 c3 c4 c5 c6 c7 c8
        go_wp2_with fail
        rw [HEG.out]
        simp only [Oper.upon]
        refine HC.out.mono ?_
        rintro e w1 ⟨rfl, l1⟩
        have L1 := lr.trans l1
        clear c0 c1 c2 c3 c4 c5 c6 c7 c8
        go_wp2_with fail
        go_ret
        exact ⟨HF.out, L1⟩
      | false =>
        rw [hq] at HC
        have HF : Hid (∀ x ∈ l.take (k + 1), q x = false) := fun x hx => by
          rw [HTK.out] at hx
          rcases List.mem_append.1 hx with h | h
          · exact HNO.out x h
          · rw [show x = l[k] from by simpa using h]; exact hq
        clear HTK HAT HG hq
        generalize l[k] = r at *
        simp only [exc, List.getElem?_cons_zero, List.getElem?_cons_succ, Nat.add_zero] at c0 c1 c2 c3 c4 c5 c6 c7 c8
        go_wp2_with fail
        rw [HEG.out]
        simp only [Oper.upon]
        refine HC.out.mono ?_
        rintro e w1 ⟨rfl, l1⟩
        have L1 := lr.trans l1
        clear c0 c1 c2 c3 c4 c5 c6 c7 c8
        go_wp2_with fail
        go_roundw
        case rel => exact ⟨k + 1, by omega, by go_num, HF.out, L1⟩
        case measure => simp [intOf]; omega
    · obtain rfl : k = l.length := by omega
      have HF : Hid (ixP q l (.returned (.int .i64 (-1)))) := .inr ⟨rfl, fun x hx => HNO.out x (by rw [List.take_length]; exact hx)⟩
      go_wp2_with fail
      go_ret
      exact ⟨HF.out, lr⟩
end Go.Proofs.YtohflohdbkamnaaGreatDoor

/- Package expect: those that are wanted and the others. -/
namespace Go.Proofs.YtohflohdbkamnaaGreatDoor
open Go.RowKit Go.Shelf
set_option maxRecDepth 100000
set_option linter.unusedVariables false
set_option linter.unusedSimpArgs false

/-- One more behind one's own. -/
theorem app1E (W : World) (ty : TypeId) (base : Nat) (v : Value) (xs : List Ex) (x : Ex) (hown : W.ownsRow base 136 9 v xs.length (exs xs)) (hb : base ≤ W.heap.size) (hs : xs.length ≤ 5000) :
    ∃ g cap W', (Builtin.append_ #[42, 42] ty #[v, .slice (some ⟨W.heap.size, 0, none⟩) 1 1]).run Tryz.prog (W.alloc (.cells (exc x).toArray 136)) = .ok (.slice (some ⟨g, 0, none⟩) (xs.length + 1) cap) W' ∧ W'.ownsRow base 136 9 (.slice (some ⟨g, 0, none⟩) (xs.length + 1) cap) (xs ++ [x]).length (exs (xs ++ [x])) ∧ But (fun b => v.ownBlock = some b) W W' ∧ (v.ownBlock = some g ∨ W.heap.size ≤ g) ∧ (W.alloc (.cells (exc x).toArray 136)).grownBy W' v.ownBlock := by
  have la : Later W (W.alloc (.cells (exc x).toArray 136)) := (Below.refl _ _).alloc (Nat.le_refl _) _
  have hn := heap_alloc_new W (.cells (exc x).toArray 136)
  have hI : RdV (W.heap.size + 1) (W.alloc (.cells (exc x).toArray 136)) (.slice (some ⟨W.heap.size, 0, none⟩) 1 1) [x] := .inr ⟨W.heap.size, 0, 1, rfl, by simp, by simp, by omega, by omega, fun j hj i hi => by
    obtain rfl : j = 0 := by simpa using hj
    rw [show 0 + 0 * 9 + i = i from by omega, block_cell hn i]
    simp⟩
  obtain ⟨v', w', h1, h2, h3, h4⟩ := appE (W.alloc (.cells (exc x).toArray 136)) ty base (W.heap.size + 1) v xs _ [x] (ownE_later hown la) hI (by have := la.size; omega) (by simp; omega)
  have h2' := h2
  rw [show (xs ++ [x]).length = xs.length + 1 from by simp] at h2'
  obtain ⟨g, cap, rfl⟩ := ownsRow_succ h2'
  refine ⟨g, cap, w', h1, h2, (But.of la).trans ⟨h3.os, h3.tape, h3.output, h3.size, fun k hk he => h3.block k hk (fun e => he e.symm)⟩, ?_, h3⟩
  rcases h4 with h4 | h4
  · exact .inl h4.symm
  · right
    simp [Value.ownBlock] at h4
    omega
theorem ownE_but {E : Nat → Prop} {base : Nat} {A B : World} {v : Value} {n : Nat} {xs : List Value} (h : A.ownsRow base 136 9 v n xs) (k : But E A B) (hE : ∀ g, v.ownBlock = some g → ¬ E g) : B.ownsRow base 136 9 v n xs := by
  obtain ⟨h1, h2 | ⟨g, cap, cur, hv, hg, hh, r⟩⟩ := h
  · exact ⟨h1, .inl h2⟩
  · exact ⟨h1, .inr ⟨g, cap, cur, hv, hg, (k.block g (Array.getElem?_eq_some_iff.1 hh).1 (hE g (by rw [hv]; rfl))).trans hh, r⟩⟩
theorem ownE_lt {base : Nat} {W : World} {v : Value} {n : Nat} {xs : List Value} (h : W.ownsRow base 136 9 v n xs) {g : Nat} (e : v.ownBlock = some g) : base ≤ g ∧ g < W.heap.size := h.lt g e
theorem ownE_slice {base : Nat} {A : World} {v : Value} {n : Nat} {xs : List Value} (h : A.ownsRow base 136 9 v n xs) : ∃ sa cap, v = .slice sa n cap := by
  obtain ⟨h1, ⟨rfl, rfl⟩ | ⟨g, cap, cur, hv, hg, r⟩⟩ := h
  · exact ⟨_, _, rfl⟩
  · exact ⟨_, _, hv⟩

/-- Two lists of one's own that share nothing. -/
def Two (base : Nat) (W : World) (u v : Value) (xs ys : List Ex) : Prop := W.ownsRow base 136 9 u xs.length (exs xs) ∧ W.ownsRow base 136 9 v ys.length (exs ys) ∧ ∀ g, u.ownBlock = some g → v.ownBlock ≠ some g
theorem Two.later {base : Nat} {A B : World} {u v : Value} {xs ys : List Ex} (h : Two base A u v xs ys) (k : Later A B) : Two base B u v xs ys := ⟨ownE_later h.1 k, ownE_later h.2.1 k, h.2.2⟩

set_option maxHeartbeats 8000000 in
theorem split12_any (n₀ cf : Nat) (lb : Array Value) (v : Value) (l : List Ex) (q : Ex → Bool) (w : World) (hR : RdV n₀ w v l) (hn : n₀ ≤ w.heap.size) (hl : l.length ≤ 1000)
    (eg : ∀ args w, (callFunc cf args).run Tryz.prog w = .ok (.enter cf args) w)
    (hcl : ∀ x ∈ l, ∀ W, Later w W → Calls Tryz.prog cf (#[.agg (exc x).toArray] ++ lb) W fun e W' => e = .returned (.bool (q x)) ∧ Later W W') :
    Calls Tryz.prog 99 #[v, .func (.func cf) #[] lb] w fun e w' => Later w w' ∧ ∃ u1 u2, e = .returned (.tuple #[u1, u2]) ∧ Two w.heap.size w' u1 u2 (l.filter q) (l.filter (fun x => !q x)) := by
  obtain ⟨sa, cap, rfl, hc1, hc2⟩ := hR.slice
  have HR := hide hR
  have HCL := hide hcl
  have HEG := hide eg
  have hli : (l.length : Int) ≤ 1000 := by omega
  clear hR hcl eg
  go_enter Tryz.func99, Tryz.ntmps99
  go_wp2_with fail
  go_loopw [4, 5, 10] (fun u1 u2 i wr => ∃ k : Nat, k ≤ l.length ∧ i = .int .i64 (k : Int) ∧ Two w.heap.size wr u1 u2 ((l.take k).filter q) ((l.take k).filter (fun x => !q x)) ∧ Later w wr) (fun _ _ i _ => l.length - (intOf i).toNat)
  case atStart => exact ⟨0, by omega, rfl, ⟨World.ownsRow_nil _ _ _ _, World.ownsRow_nil _ _ _ _, fun g h => by cases h⟩, Later.refl _⟩
  case round =>
    obtain ⟨k, hk, rfl, hTw, lr⟩ := hrel
    obtain ⟨s1, k1, rfl⟩ := ownE_slice hTw.1
    obtain ⟨s2, k2, rfl⟩ := ownE_slice hTw.2.1
    have HTW := hide hTw
    clear hTw
    have hlA : ((l.take k).filter q).length ≤ 1000 := Nat.le_trans (List.length_filter_le _ _) (by simp; omega)
    have hlB : ((l.take k).filter (fun x => !q x)).length ≤ 1000 := Nat.le_trans (List.length_filter_le _ _) (by simp; omega)
    by_cases hkl : k < l.length
    · obtain ⟨g, off, cp, e, _, _, hgn, hcs⟩ := (HR.out.below (lr.mono hn)).cells (by omega)
      simp at e
      obtain ⟨rfl, rfl⟩ := e
      have c0 := hcs k hkl 0 (by omega)
      have c1 := hcs k hkl 1 (by omega)
      have c2 := hcs k hkl 2 (by omega)
      have c3 := hcs k hkl 3 (by omega)
      have c4 := hcs k hkl 4 (by omega)
      have c5 := hcs k hkl 5 (by omega)
      have c6 := hcs k hkl 6 (by omega)
      have c7 := hcs k hkl 7 (by omega)
      have c8 := hcs k hkl 8 (by omega)
      have hkl' : (k : Int) < l.length := by omega
      have htk : l.take (k + 1) = l.take k ++ [l[k]] := (List.take_append_getElem hkl).symm
      have HFA : Hid (∀ b, q l[k] = b → (l.take (k + 1)).filter q = if b then (l.take k).filter q ++ [l[k]] else (l.take k).filter q) := fun b h => by rw [htk, List.filter_append]; cases b <;> simp [h]
      have HFB : Hid (∀ b, q l[k] = b → (l.take (k + 1)).filter (fun x => !q x) = if b then (l.take k).filter (fun x => !q x) else (l.take k).filter (fun x => !q x) ++ [l[k]]) := fun b h => by rw [htk, List.filter_append]; cases b <;> simp [h]
      have HC := hide (HCL.out l[k] (List.getElem_mem hkl))
      clear hcs htk
      generalize hFq : (l.take k).filter q = FA at *
      generalize hFn : (l.take k).filter (fun x => !q x) = FB at *
      clear hFq hFn
      generalize l[k] = r at *
      simp only [exc, List.getElem?_cons_zero, List.getElem?_cons_succ, Nat.add_zero] at c0 c1 c2 c3 c4 c5 c6 c7 c8
      have la : Later wr (wr.alloc (.cells #[.int .u8 r.pr, .int .u32 r.src, .int .u32 r.dst, .int .u16 r.sp, .int .u16 r.dp, .int .u32 r.host, .int .u16 r.hp, .int .i64 r.ms, .int .i64 r.dl] 136)) := (Below.refl _ _).alloc (Nat.le_refl _) _
      have cB := heap_alloc_new wr (.cells #[.int .u8 r.pr, .int .u32 r.src, .int .u32 r.dst, .int .u16 r.sp, .int .u16 r.dp, .int .u32 r.host, .int .u16 r.hp, .int .i64 r.ms, .int .i64 r.dl] 136)
      have kB := block_cell cB
      have hws : w.heap.size ≤ wr.heap.size := lr.size
      go_wp2_with fail
      generalize wr.alloc (.cells #[.int .u8 r.pr, .int .u32 r.src, .int .u32 r.dst, .int .u16 r.sp, .int .u16 r.dp, .int .u32 r.host, .int .u16 r.hp, .int .i64 r.ms, .int .i64 r.dl] 136) = w1 at *
      clear c0 c1 c2 c3 c4 c5 c6 c7 c8 kB
      rw [HEG.out]
      simp only [Oper.upon]
      have L1 : Later w w1 := lr.trans la
      refine (HC.out w1 L1).mono ?_
      rintro e w2 ⟨rfl, l2⟩
      have L2 : Later w w2 := L1.trans l2
      have kB := block_cell (later_keep l2 cB)
      have HTW2 := hide (HTW.out.later (la.trans l2))
      have hs2 := L2.size
      clear la l2 cB HTW HC
      cases hq : q r with
      | true =>
        obtain ⟨g2, cp2, W3, hrun, hrow, hbt, hob, _⟩ := app1E w2 42 w.heap.size (.slice s1 FA.length k1) FA r HTW2.out.1 hs2 (by omega)
        have HRUN := hide hrun
        have HE1 := hide (HFA.out true hq)
        have HE2 := hide (HFB.out true hq)
        have HN : Hid (Two w.heap.size W3 (.slice (some ⟨g2, 0, none⟩) (FA.length + 1) cp2) (.slice s2 FB.length k2) (FA ++ [r]) FB ∧ Later w W3) := ⟨⟨hrow, ownE_but HTW2.out.2.1 hbt (fun g hg e => HTW2.out.2.2 g e hg), fun g hg e => by
          cases hg
          rcases hob with h | h
          · exact HTW2.out.2.2 _ h e
          · have : g2 < w2.heap.size := (ownE_lt HTW2.out.2.1 e).2
            omega⟩, Below.trans L2 (hbt.below hs2 (fun x hx e => by have := (ownE_lt HTW2.out.1 e).1; omega))⟩
        clear hq hrun hrow hbt hob HFA HFB
        go_wp2_with (at_builtin; refine wpList_appv rfl (.tmp 17) (.tmp 19) 42 rfl _ _ rfl rfl _ W3 HRUN.out ?_)
        go_roundw
        case rel => exact ⟨k + 1, by omega, by go_num, by rw [HE1.out, HE2.out]; exact HN.out.1, HN.out.2⟩
        case measure => simp [intOf]; omega
      | false =>
        obtain ⟨g2, cp2, W3, hrun, hrow, hbt, hob, _⟩ := app1E w2 42 w.heap.size (.slice s2 FB.length k2) FB r HTW2.out.2.1 hs2 (by omega)
        have HRUN := hide hrun
        have HE1 := hide (HFA.out false hq)
        have HE2 := hide (HFB.out false hq)
        have HN : Hid (Two w.heap.size W3 (.slice s1 FA.length k1) (.slice (some ⟨g2, 0, none⟩) (FB.length + 1) cp2) FA (FB ++ [r]) ∧ Later w W3) := ⟨⟨ownE_but HTW2.out.1 hbt (fun g hg e => HTW2.out.2.2 g hg e), hrow, fun g hg e => by
          cases e
          rcases hob with h | h
          · exact HTW2.out.2.2 _ hg h
          · have : g2 < w2.heap.size := (ownE_lt HTW2.out.1 hg).2
            omega⟩, Below.trans L2 (hbt.below hs2 (fun x hx e => by have := (ownE_lt HTW2.out.2.1 e).1; omega))⟩
        clear hq hrun hrow hbt hob HFA HFB
        go_wp2_with (at_builtin; refine wpList_appv rfl (.tmp 21) (.tmp 23) 42 rfl _ _ rfl rfl _ W3 HRUN.out ?_)
        go_roundw
        case rel => exact ⟨k + 1, by omega, by go_num, by rw [HE1.out, HE2.out]; exact HN.out.1, HN.out.2⟩
        case measure => simp [intOf]; omega
    · obtain rfl : k = l.length := by omega
      rw [List.take_length] at HTW
      simp only [List.take_length] at *
      go_wp2_with fail
      refine bodyPost_ret (v := .tuple #[.slice s1 (l.filter q).length k1, .slice s2 (l.filter (fun x => !q x)).length k2]) (by simp [results, Tryz.results99, go_sem]) rfl ?_
      exact ⟨lr, _, _, rfl, HTW.out⟩
end Go.Proofs.YtohflohdbkamnaaGreatDoor

/- Package expect: a book's calls, but Add. -/
namespace Go.Proofs.YtohflohdbkamnaaGreatDoor
open Go.RowKit Go.Shelf
set_option maxRecDepth 100000
set_option linter.unusedVariables false
set_option linter.unusedSimpArgs false

theorem BL.mono' {t : TypeId} {base base' : Nat} {W : World} {b : Nat} {v : Value} {l : List Ex} (h : W.ownsRow base 136 9 v l.length (exs l)) (hb : base' ≤ base) : W.ownsRow base' 136 9 v l.length (exs l) := by
  obtain ⟨h1, h2 | ⟨g, cap, cur, hv, hg, r⟩⟩ := h
  · exact ⟨h1, .inl h2⟩
  · exact ⟨h1, .inr ⟨g, cap, cur, hv, by omega, r⟩⟩
theorem new12_any (w : World) : Calls Tryz.prog 41 #[] w fun e w' => e = .returned (.pointer (some ⟨w.heap.size, 0, none⟩)) ∧ Later w w' ∧ BL 174 w.heap.size w' w.heap.size (.slice none 0 0) [] := by
  have la : Later w (w.alloc (.cells #[.slice none 0 0] 174)) := (Below.refl _ _).alloc (Nat.le_refl _) _
  have hn := heap_alloc_new w (.cells #[.slice none 0 0] 174)
  go_enter Tryz.func41, Tryz.ntmps41
  go_wp2_with fail
  go_ret
  exact ⟨rfl, la, Nat.le_refl _, hn, rfl, .inl ⟨rfl, rfl⟩⟩

/-- How those that are wanted are taken out. -/
def TkO (t : TypeId) (base : Nat) (w w' : World) (b : Nat) (l1 l2 : List Ex) (u : Value) : Prop := ∃ v', BL t base w' b v' l2 ∧ w'.ownsRow w.heap.size 136 9 u l1.length (exs l1) ∧ But (fun g => g = b) w w' ∧ ∀ g, v'.ownBlock = some g → w.heap.size ≤ g
set_option maxHeartbeats 4000000 in
theorem takeOut_any (base b cf : Nat) (lb : Array Value) (v : Value) (l : List Ex) (q : Ex → Bool) (w : World) (hT : BL 174 base w b v l) (hbs : base ≤ w.heap.size) (hl : l.length ≤ 1000)
    (eg : ∀ args w, (callFunc cf args).run Tryz.prog w = .ok (.enter cf args) w)
    (hcl : ∀ x ∈ l, ∀ W, Later w W → Calls Tryz.prog cf (#[.agg (exc x).toArray] ++ lb) W fun e W' => e = .returned (.bool (q x)) ∧ Later W W') :
    Calls Tryz.prog 58 #[.pointer (some ⟨b, 0, none⟩), .func (.func cf) #[] lb] w fun e w' => ∃ u, e = .returned u ∧ TkO 174 base w w' b (l.filter q) (l.filter (fun x => !q x)) u := by
  have HSP := hide (split12_any w.heap.size cf lb v l q w (ownE_rd hT.2.2) (Nat.le_refl _) hl eg hcl)
  have k0 := block_cell hT.2.1
  obtain ⟨av, cv, rfl, _, _⟩ := (ownE_rd hT.2.2).slice
  clear eg hcl
  go_enter Tryz.func58, Tryz.ntmps58
  go_wp2_with fail
  refine HSP.out.mono ?_
  rintro e w1 ⟨l1, u1, u2, rfl, hTw⟩
  have h1 := later_keep l1 hT.2.1
  have hbl := hT.blt
  clear k0 HSP
  have k1 := block_cell h1
  have f1 := block_frozen h1
  obtain ⟨s1, c1, rfl⟩ := ownE_slice hTw.1
  obtain ⟨s2, c2, rfl⟩ := ownE_slice hTw.2.1
  have HTW := hide hTw
  clear hTw
  go_wp2_with fail
  go_ret
  have hbt : But (fun g => g = b) w1 (w1.setCell ⟨b, 0, none⟩ (.slice s2 (l.filter (fun x => !q x)).length c2)) := (But.refl (fun g => g = b) _).setCell (p := ⟨b, 0, none⟩) rfl _
  have hsz : w.heap.size ≤ w1.heap.size := l1.size
  refine ⟨_, rfl, .slice s2 (l.filter (fun x => !q x)).length c2, ⟨hT.1, by simpa using heap_set1 h1 0 (.slice s2 (l.filter (fun x => !q x)).length c2), ?_⟩, ?_, (But.of l1).trans hbt, fun g hg => (ownE_lt HTW.out.2.1 hg).1⟩
  · exact BL.mono' (t := 0) (b := 0) (ownE_but HTW.out.2.1 hbt (fun g hg e => by have := (ownE_lt HTW.out.2.1 hg).1; omega)) hbs
  · exact ownE_but HTW.out.1 hbt (fun g hg e => by have := (ownE_lt HTW.out.1 hg).1; omega)

set_option maxHeartbeats 2000000 in
theorem due12_any (base b : Nat) (v : Value) (l : List Ex) (m : Int) (w : World) (hT : BL 174 base w b v l) (hbs : base ≤ w.heap.size) (hl : l.length ≤ 1000) :
    Calls Tryz.prog 24 #[.pointer (some ⟨b, 0, none⟩), .int .i64 m] w fun e w' => ∃ u, e = .returned u ∧ TkO 174 base w w' b (l.filter (fun x => decide (x.dl ≤ m))) (l.filter (fun x => !decide (x.dl ≤ m))) u := by
  have l1 : Later w (w.alloc (.cells #[.int .i64 m] 3)) := (Below.refl _ _).alloc (Nat.le_refl _) _
  have c1 := heap_alloc_new w (.cells #[.int .i64 m] 3)
  go_enter Tryz.func24, Tryz.ntmps24
  go_wp2_with fail
  generalize w.alloc _ = w1 at *
  have HTO := hide (takeOut_any base b 59 #[.pointer (some ⟨w.heap.size, 0, none⟩)] v l (fun x => decide (x.dl ≤ m)) w1 (hT.later l1) (Nat.le_trans hbs l1.size) hl (enters_of Tryz.func59 (by kernel_rfl) rfl) (fun x _ W hW => due1_any x m w.heap.size W ((block_cell (later_keep hW c1) 0).trans rfl)))
  refine HTO.out.mono ?_
  rintro e w2 ⟨u, rfl, v', h1, h2, h3, h4⟩
  have hs : w.heap.size ≤ w1.heap.size := l1.size
  obtain ⟨s2, c2, rfl⟩ := ownE_slice h2
  have H2 := hide h2
  clear h2
  go_wp2_with fail
  go_ret
  exact ⟨_, rfl, v', h1, BL.mono' (t := 0) (b := 0) H2.out hs, (But.of l1).trans h3, fun g hg => Nat.le_trans hs (h4 g hg)⟩

set_option maxHeartbeats 2000000 in
theorem list12_any (base b : Nat) (v : Value) (l : List Ex) (w : World) (hT : BL 174 base w b v l) (hl : l.length ≤ 1000) :
    Calls Tryz.prog 30 #[.pointer (some ⟨b, 0, none⟩)] w fun e w' => Later w w' ∧ ∃ u, e = .returned u ∧ w'.ownsRow w.heap.size 136 9 u l.length (exs l) := by
  have k0 := block_cell hT.2.1
  obtain ⟨av, cv, rfl, _, _⟩ := (ownE_rd hT.2.2).slice
  go_enter Tryz.func30, Tryz.ntmps30
  go_wp2_with fail
  refine (clone12_any base _ l w hT.2.2 (by omega)).mono ?_
  rintro e w1 ⟨l1, u, rfl, hu⟩
  obtain ⟨s2, c2, rfl⟩ := ownE_slice hu
  have HU := hide hu
  clear hu k0
  go_wp2_with fail
  go_ret
  exact ⟨l1, _, rfl, HU.out⟩

end Go.Proofs.YtohflohdbkamnaaGreatDoor

/- Package expect: Peek, Match. -/
namespace Go.Proofs.YtohflohdbkamnaaGreatDoor
open Go.RowKit Go.Shelf
set_option maxRecDepth 100000
set_option linter.unusedVariables false
set_option linter.unusedSimpArgs false

theorem alloc2 (w : World) (A B : Obj) : Later w ((w.alloc A).alloc B) ∧ ((w.alloc A).alloc B).heap[w.heap.size]? = some A ∧ ((w.alloc A).alloc B).heap[w.heap.size + 1]? = some B := by
  refine ⟨((Below.refl _ _).alloc (Nat.le_refl _) _).alloc (by simp) _, (Below.heap_alloc _ _ _ (by simp)).trans (heap_alloc_new w _), ?_⟩
  have := heap_alloc_new (w.alloc A) B
  rwa [World.size_alloc] at this
theorem alloc3 (w : World) (A B C : Obj) : Later w (((w.alloc A).alloc B).alloc C) ∧ (((w.alloc A).alloc B).alloc C).heap[w.heap.size]? = some A ∧ (((w.alloc A).alloc B).alloc C).heap[w.heap.size + 1]? = some B ∧ (((w.alloc A).alloc B).alloc C).heap[w.heap.size + 1 + 1]? = some C := by
  obtain ⟨h1, h2, h3⟩ := alloc2 w A B
  refine ⟨h1.trans ((Below.refl _ _).alloc (Nat.le_refl _) _), (Below.heap_alloc _ _ _ (by simp <;> omega)).trans h2, (Below.heap_alloc _ _ _ (by simp)).trans h3, ?_⟩
  have := heap_alloc_new ((w.alloc A).alloc B) C
  simpa only [World.size_alloc] using this

/-- The first that is wanted; is there one? -/
def xfnd (p : Ex → Bool) (l : List Ex) : Ex := (l.find? p).getD zEx
def xfdb (p : Ex → Bool) (l : List Ex) : Bool := (l.find? p).isSome
theorem find_at {p : Ex → Bool} {l : List Ex} {k : Nat} (hk : k < l.length) (hp : p l[k] = true) (hno : ∀ x ∈ l.take k, p x = false) : l.find? p = some l[k] := by
  have e : l = l.take k ++ l[k] :: l.drop (k + 1) := by rw [← List.drop_eq_getElem_cons hk, List.take_append_drop]
  have h1 : (l.take k).find? p = none := by rw [List.find?_eq_none]; intro x hx; rw [hno x hx]; simp
  conv => lhs; rw [e]
  rw [List.find?_append, h1, Option.none_or, List.find?_cons_of_pos hp]
theorem find_no {p : Ex → Bool} {l : List Ex} (hno : ∀ x ∈ l, p x = false) : l.find? p = none := by rw [List.find?_eq_none]; intro x hx; rw [hno x hx]; simp

set_option maxHeartbeats 4000000 in
theorem peek12_any (base b : Nat) (v : Value) (l : List Ex) (t : Tu) (now : Int) (w : World) (hT : BL 174 base w b v l) (hl : l.length ≤ 1000) :
    Calls Tryz.prog 234 #[.pointer (some ⟨b, 0, none⟩), .agg (tuc t).toArray, .int .i64 now] w fun e w' => e = .returned (.tuple #[.agg (exc (xfnd (pkX t now) l)).toArray, .bool (xfdb (pkX t now) l)]) ∧ Later w w' := by
  obtain ⟨av, cv, rfl, hcl, hcm⟩ := (ownE_rd hT.2.2).slice
  obtain ⟨lb0, c0, c1, c2⟩ := alloc3 w (.cells (tuc t).toArray 69) (.cells #[.int .i64 now] 3) (.cells (exc zEx).toArray 136)
  have hli : (l.length : Int) ≤ 1000 := by omega
  go_enter Tryz.func234, Tryz.ntmps234
  have k0 := block_cell (later_keep lb0 hT.2.1)
  unfold tuc exc zEx at *
  simp only at *
  go_wp2_with fail
  generalize ((w.alloc _).alloc _).alloc _ = w0 at *
  have hT0 := hT.later lb0
  have HIX := hide (index12_any w0.heap.size 270 #[.pointer (some ⟨w.heap.size, 0, none⟩), .pointer (some ⟨w.heap.size + 1, 0, none⟩)] _ l (pkX t now) w0 (ownE_rd hT0.2.2) (Nat.le_refl _) (by omega) (enters_of Tryz.func270 (by kernel_rfl) rfl) (fun x _ W hW => peek1_any x t now w.heap.size (w.heap.size + 1) W (by unfold tuc; exact later_keep hW c0) ((block_cell (later_keep hW c1) 0).trans rfl)))
  refine HIX.out.mono ?_
  rintro e w1 ⟨⟨k, hk, rfl, hq, hno⟩ | ⟨rfl, hno⟩, l1⟩
  · have hfi := find_at hk hq hno
    have L1 := lb0.trans l1
    have d2 := later_keep l1 c2
    have hT1 := hT0.later l1
    obtain ⟨g, off, cp, e, _, _, hgn, hcs⟩ := (ownE_rd hT1.2.2).cells (by omega)
    simp at e
    obtain ⟨rfl, rfl⟩ := e
    have e0 := hcs k hk 0 (by omega)
    have e1 := hcs k hk 1 (by omega)
    have e2 := hcs k hk 2 (by omega)
    have e3 := hcs k hk 3 (by omega)
    have e4 := hcs k hk 4 (by omega)
    have e5 := hcs k hk 5 (by omega)
    have e6 := hcs k hk 6 (by omega)
    have e7 := hcs k hk 7 (by omega)
    have e8 := hcs k hk 8 (by omega)
    have HF1 : Hid (xfnd (pkX t now) l = l[k]) := by show _ = _; unfold xfnd; rw [hfi]; rfl
    have HF2 : Hid (xfdb (pkX t now) l = true) := by show _ = _; unfold xfdb; rw [hfi]; rfl
    have hki : (k : Int) < l.length := by omega
    clear hcs hfi hq hno HIX
    generalize l[k] = r at *
    simp only [exc, List.getElem?_cons_zero, List.getElem?_cons_succ, Nat.add_zero] at e0 e1 e2 e3 e4 e5 e6 e7 e8
    clear k0
    have k1 := block_cell hT1.2.1
    have K2 := block_cell d2
    have F2 := block_frozen d2
    go_wp2_with fail
    change bodyPost _ _ _ _ _ (putRow w1 (w.heap.size + 1 + 1) 0 (exc r))
    have v1 := putRow_all (exc r) d2 rfl
    have hbl : Below w.heap.size w1 (putRow w1 (w.heap.size + 1 + 1) 0 (exc r)) := (putRow_rb (rb := w.heap.size + 1 + 1) (exc r) w1).below L1.size (fun k hk e => by omega)
    generalize putRow w1 (w.heap.size + 1 + 1) 0 (exc r) = V at *
    have kk := block_cell v1
    simp only [exc] at kk
    refine bodyPost_ret (v := .tuple #[.agg #[.int .u8 r.pr, .int .u32 r.src, .int .u32 r.dst, .int .u16 r.sp, .int .u16 r.dp, .int .u32 r.host, .int .u16 r.hp, .int .i64 r.ms, .int .i64 r.dl], .bool true]) (by simp [results, Tryz.results234, go_sem, kk]) rfl ⟨by rw [HF1.out, HF2.out], Below.trans L1 hbl⟩
  · have hfi := find_no hno
    have L1 := lb0.trans l1
    have d2 := later_keep l1 c2
    have HF1 : Hid (xfnd (pkX t now) l = zEx) := by show _ = _; unfold xfnd; rw [hfi]; rfl
    have HF2 : Hid (xfdb (pkX t now) l = false) := by show _ = _; unfold xfdb; rw [hfi]; rfl
    clear hfi hno HIX k0
    have K2 := block_cell d2
    have F2 := block_frozen d2
    go_wp2_with fail
    change bodyPost _ _ _ _ _ (putRow w1 (w.heap.size + 1 + 1) 0 (exc zEx))
    have v1 := putRow_all (exc zEx) d2 rfl
    have hbl : Below w.heap.size w1 (putRow w1 (w.heap.size + 1 + 1) 0 (exc zEx)) := (putRow_rb (rb := w.heap.size + 1 + 1) (exc zEx) w1).below L1.size (fun k hk e => by omega)
    generalize putRow w1 (w.heap.size + 1 + 1) 0 (exc zEx) = V at *
    have kk := block_cell v1
    simp only [exc, zEx] at kk
    refine bodyPost_ret (v := .tuple #[.agg #[.int .u8 0, .int .u32 0, .int .u32 0, .int .u16 0, .int .u16 0, .int .u32 0, .int .u16 0, .int .i64 0, .int .i64 0], .bool false]) (by simp [results, Tryz.results234, go_sem, kk]) rfl ⟨by rw [HF1.out, HF2.out]; rfl, Below.trans L1 hbl⟩

end Go.Proofs.YtohflohdbkamnaaGreatDoor

/- Layer 5: Reverse, Key of both sides; bytesOf, Hash. -/
namespace Go.Proofs.YtohflohdbkamnaaGreatDoor
open Go.RowKit
set_option maxRecDepth 100000
set_option linter.unusedVariables false
set_option linter.unusedSimpArgs false

set_option maxHeartbeats 1000000 in
theorem reverse_any (p s d a b : Int) (w : World) : Calls Tryz.prog 82 #[.agg #[.int .u8 p, .int .u32 s, .int .u32 d, .int .u16 a, .int .u16 b]] w fun e w' => e = .returned (.agg #[.int .u8 p, .int .u32 d, .int .u32 s, .int .u16 b, .int .u16 a]) ∧ Below w.heap.size w w' := by
  go_enter Tryz.func82, Tryz.ntmps82
  go_wp2_with fail
  exact bodyPost_ret (v := .agg #[.int .u8 p, .int .u32 d, .int .u32 s, .int .u16 b, .int .u16 a]) (by simp [results, Tryz.results82, go_sem]) rfl ⟨rfl, ((Below.refl _ _).alloc (Nat.le_refl _) _).alloc (by simp) _⟩

def kyp (p a : Int) : Int := if p == 47 then 0 else a

set_option maxHeartbeats 1000000 in
theorem key_any (p s d a b : Int) (w : World) : Calls Tryz.prog 52 #[.agg #[.int .u8 p, .int .u32 s, .int .u32 d, .int .u16 a, .int .u16 b]] w fun e w' => e = .returned (.agg #[.int .u8 p, .int .u32 s, .int .u32 d, .int .u16 (kyp p a), .int .u16 b]) ∧ Below w.heap.size w w' := by
  rcases Bool.eq_false_or_eq_true (p == 47) with h | h
  · rw [show kyp p a = 0 from by unfold kyp; rw [h]; rfl]
    go_enter Tryz.func52, Tryz.ntmps52
    go_wp2_with fail
    exact bodyPost_ret (v := .agg #[.int .u8 p, .int .u32 s, .int .u32 d, .int .u16 0, .int .u16 b]) (by simp [results, Tryz.results52, go_sem]) rfl ⟨rfl, ((Below.refl _ _).alloc (Nat.le_refl _) _).alloc (by simp) _⟩
  · rw [show kyp p a = a from by unfold kyp; rw [h]; rfl]
    go_enter Tryz.func52, Tryz.ntmps52
    go_wp2_with fail
    exact bodyPost_ret (v := .agg #[.int .u8 p, .int .u32 s, .int .u32 d, .int .u16 a, .int .u16 b]) (by simp [results, Tryz.results52, go_sem]) rfl ⟨rfl, ((Below.refl _ _).alloc (Nat.le_refl _) _).alloc (by simp) _⟩

def tb (p s d a b : Int) : List Int := [p, s / 16777216, s / 65536 % 256, s / 256 % 256, s % 256, d / 16777216, d / 65536 % 256, d / 256 % 256, d % 256, a / 256, a % 256, b / 256, b % 256]
set_option maxHeartbeats 1000000 in
theorem bytesOf_any (p s d a b : Int) (w : World) (hs : 0 ≤ s ∧ s ≤ 4294967295) (hd : 0 ≤ d ∧ d ≤ 4294967295) (ha : 0 ≤ a ∧ a ≤ 65535) (hb : 0 ≤ b ∧ b ≤ 65535) : Calls Tryz.prog 154 #[.agg #[.int .u8 p, .int .u32 s, .int .u32 d, .int .u16 a, .int .u16 b]] w fun e w' => e = .returned (.agg ((tb p s d a b).map (.int .u8)).toArray) ∧ Below w.heap.size w w' := by
  go_enter Tryz.func154, Tryz.ntmps154
  go_wp2_with fail
  exact bodyPost_ret (v := .agg #[.int .u8 (p), .int .u8 (s / 16777216), .int .u8 (s / 65536 % 256), .int .u8 (s / 256 % 256), .int .u8 (s % 256), .int .u8 (d / 16777216), .int .u8 (d / 65536 % 256), .int .u8 (d / 256 % 256), .int .u8 (d % 256), .int .u8 (a / 256), .int .u8 (a % 256), .int .u8 (b / 256), .int .u8 (b % 256)]) (by simp [results, Tryz.results154, go_sem]) rfl ⟨rfl, ((Below.refl _ _).alloc (Nat.le_refl _) _).alloc (by simp) _⟩

def hstep (h x : Int) : Int := bits .xor .u32 h (x % 4294967296) * 16777619 % 4294967296
def hsh (zs : List Int) : Int := zs.foldl hstep 2166136261

set_option maxHeartbeats 2000000 in
theorem hash_any (p s d a b : Int) (w : World) (hs : 0 ≤ s ∧ s ≤ 4294967295) (hd : 0 ≤ d ∧ d ≤ 4294967295) (ha : 0 ≤ a ∧ a ≤ 65535) (hb : 0 ≤ b ∧ b ≤ 65535) : Calls Tryz.prog 94 #[.agg #[.int .u8 p, .int .u32 s, .int .u32 d, .int .u16 a, .int .u16 b]] w fun e w' => e = .returned (.int .u32 (hsh (tb p s d (kyp p a) b))) ∧ Below w.heap.size w w' := by
  have hk : 0 ≤ kyp p a ∧ kyp p a ≤ 65535 := by unfold kyp; split <;> omega
  have hb0 : Below w.heap.size w (w.alloc (.cells #[.int .u8 p, .int .u32 s, .int .u32 d, .int .u16 a, .int .u16 b] 69)) := (Below.refl _ _).alloc (Nat.le_refl _) _
  go_enter Tryz.func94, Tryz.ntmps94
  go_wp2_with fail
  generalize w.alloc (.cells #[.int .u8 p, .int .u32 s, .int .u32 d, .int .u16 a, .int .u16 b] 69) = w0 at *
  refine (key_any p s d a b _).mono ?_
  rintro e w1 ⟨rfl, hb1⟩
  have hw1 := hb0.trans (hb1.mono hb0.size)
  generalize hkk0 : kyp p a = ka at *
  have HKA := hide hkk0
  clear hkk0
  go_wp2_with fail
  refine (bytesOf_any p s d ka b _ hs hd hk hb).mono ?_
  rintro e w2 ⟨rfl, hb2⟩
  have hw2 := hw1.trans (hb2.mono hw1.size)
  obtain ⟨x0, x1, x2, x3, x4, x5, x6, x7, x8, x9, xa, xb, xc, hx⟩ : ∃ x0 x1 x2 x3 x4 x5 x6 x7 x8 x9 xa xb xc, tb p s d ka b = [x0, x1, x2, x3, x4, x5, x6, x7, x8, x9, xa, xb, xc] := ⟨_, _, _, _, _, _, _, _, _, _, _, _, _, rfl⟩
  have HX := hide hx
  rw [hx]
  simp only [List.map_cons, List.map_nil]
  clear hx
  go_wp2_with fail
  go_loopw [3, 9] (fun h i wr => ∃ k hv : Int, (0 ≤ k ∧ k ≤ 13) ∧ i = .int .i64 k ∧ h = .int .u32 hv ∧ (0 ≤ hv ∧ hv ≤ 4294967295) ∧ Hid (hv = hsh ([x0, x1, x2, x3, x4, x5, x6, x7, x8, x9, xa, xb, xc].take k.toNat)) ∧ wr = w2) (fun _ i _ => 13 - (intOf i).toNat)
  case atStart => exact ⟨0, 2166136261, by omega, rfl, rfl, by omega, rfl, rfl⟩
  case round =>
    obtain ⟨k, hv, hk13, rfl, rfl, hvb, HV, rfl⟩ := hrel
    have hkk : k = 0 ∨ k = 1 ∨ k = 2 ∨ k = 3 ∨ k = 4 ∨ k = 5 ∨ k = 6 ∨ k = 7 ∨ k = 8 ∨ k = 9 ∨ k = 10 ∨ k = 11 ∨ k = 12 ∨ k = 13 := by omega
    rcases hkk with rfl | rfl | rfl | rfl | rfl | rfl | rfl | rfl | rfl | rfl | rfl | rfl | rfl | rfl
    · have hix : ∀ W : World, (Instr.index 276 (.agg #[.int .u8 x0, .int .u8 x1, .int .u8 x2, .int .u8 x3, .int .u8 x4, .int .u8 x5, .int .u8 x6, .int .u8 x7, .int .u8 x8, .int .u8 x9, .int .u8 xa, .int .u8 xb, .int .u8 xc]) (.int .i64 0)).run Tryz.prog W = .ok (.int .u8 x0) W := fun W => by kernel_rfl
      go_wp2_with fail
      exact ⟨⟨1, hstep hv x0, by omega, rfl, rfl, by unfold hstep; omega, by show _ = _; rw [HV.out]; rfl, trivial⟩, by simp [intOf]⟩
    · have hix : ∀ W : World, (Instr.index 276 (.agg #[.int .u8 x0, .int .u8 x1, .int .u8 x2, .int .u8 x3, .int .u8 x4, .int .u8 x5, .int .u8 x6, .int .u8 x7, .int .u8 x8, .int .u8 x9, .int .u8 xa, .int .u8 xb, .int .u8 xc]) (.int .i64 1)).run Tryz.prog W = .ok (.int .u8 x1) W := fun W => by kernel_rfl
      go_wp2_with fail
      exact ⟨⟨2, hstep hv x1, by omega, rfl, rfl, by unfold hstep; omega, by show _ = _; rw [HV.out]; rfl, trivial⟩, by simp [intOf]⟩
    · have hix : ∀ W : World, (Instr.index 276 (.agg #[.int .u8 x0, .int .u8 x1, .int .u8 x2, .int .u8 x3, .int .u8 x4, .int .u8 x5, .int .u8 x6, .int .u8 x7, .int .u8 x8, .int .u8 x9, .int .u8 xa, .int .u8 xb, .int .u8 xc]) (.int .i64 2)).run Tryz.prog W = .ok (.int .u8 x2) W := fun W => by kernel_rfl
      go_wp2_with fail
      exact ⟨⟨3, hstep hv x2, by omega, rfl, rfl, by unfold hstep; omega, by show _ = _; rw [HV.out]; rfl, trivial⟩, by simp [intOf]⟩
    · have hix : ∀ W : World, (Instr.index 276 (.agg #[.int .u8 x0, .int .u8 x1, .int .u8 x2, .int .u8 x3, .int .u8 x4, .int .u8 x5, .int .u8 x6, .int .u8 x7, .int .u8 x8, .int .u8 x9, .int .u8 xa, .int .u8 xb, .int .u8 xc]) (.int .i64 3)).run Tryz.prog W = .ok (.int .u8 x3) W := fun W => by kernel_rfl
      go_wp2_with fail
      exact ⟨⟨4, hstep hv x3, by omega, rfl, rfl, by unfold hstep; omega, by show _ = _; rw [HV.out]; rfl, trivial⟩, by simp [intOf]⟩
    · have hix : ∀ W : World, (Instr.index 276 (.agg #[.int .u8 x0, .int .u8 x1, .int .u8 x2, .int .u8 x3, .int .u8 x4, .int .u8 x5, .int .u8 x6, .int .u8 x7, .int .u8 x8, .int .u8 x9, .int .u8 xa, .int .u8 xb, .int .u8 xc]) (.int .i64 4)).run Tryz.prog W = .ok (.int .u8 x4) W := fun W => by kernel_rfl
      go_wp2_with fail
      exact ⟨⟨5, hstep hv x4, by omega, rfl, rfl, by unfold hstep; omega, by show _ = _; rw [HV.out]; rfl, trivial⟩, by simp [intOf]⟩
    · have hix : ∀ W : World, (Instr.index 276 (.agg #[.int .u8 x0, .int .u8 x1, .int .u8 x2, .int .u8 x3, .int .u8 x4, .int .u8 x5, .int .u8 x6, .int .u8 x7, .int .u8 x8, .int .u8 x9, .int .u8 xa, .int .u8 xb, .int .u8 xc]) (.int .i64 5)).run Tryz.prog W = .ok (.int .u8 x5) W := fun W => by kernel_rfl
      go_wp2_with fail
      exact ⟨⟨6, hstep hv x5, by omega, rfl, rfl, by unfold hstep; omega, by show _ = _; rw [HV.out]; rfl, trivial⟩, by simp [intOf]⟩
    · have hix : ∀ W : World, (Instr.index 276 (.agg #[.int .u8 x0, .int .u8 x1, .int .u8 x2, .int .u8 x3, .int .u8 x4, .int .u8 x5, .int .u8 x6, .int .u8 x7, .int .u8 x8, .int .u8 x9, .int .u8 xa, .int .u8 xb, .int .u8 xc]) (.int .i64 6)).run Tryz.prog W = .ok (.int .u8 x6) W := fun W => by kernel_rfl
      go_wp2_with fail
      exact ⟨⟨7, hstep hv x6, by omega, rfl, rfl, by unfold hstep; omega, by show _ = _; rw [HV.out]; rfl, trivial⟩, by simp [intOf]⟩
    · have hix : ∀ W : World, (Instr.index 276 (.agg #[.int .u8 x0, .int .u8 x1, .int .u8 x2, .int .u8 x3, .int .u8 x4, .int .u8 x5, .int .u8 x6, .int .u8 x7, .int .u8 x8, .int .u8 x9, .int .u8 xa, .int .u8 xb, .int .u8 xc]) (.int .i64 7)).run Tryz.prog W = .ok (.int .u8 x7) W := fun W => by kernel_rfl
      go_wp2_with fail
      exact ⟨⟨8, hstep hv x7, by omega, rfl, rfl, by unfold hstep; omega, by show _ = _; rw [HV.out]; rfl, trivial⟩, by simp [intOf]⟩
    · have hix : ∀ W : World, (Instr.index 276 (.agg #[.int .u8 x0, .int .u8 x1, .int .u8 x2, .int .u8 x3, .int .u8 x4, .int .u8 x5, .int .u8 x6, .int .u8 x7, .int .u8 x8, .int .u8 x9, .int .u8 xa, .int .u8 xb, .int .u8 xc]) (.int .i64 8)).run Tryz.prog W = .ok (.int .u8 x8) W := fun W => by kernel_rfl
      go_wp2_with fail
      exact ⟨⟨9, hstep hv x8, by omega, rfl, rfl, by unfold hstep; omega, by show _ = _; rw [HV.out]; rfl, trivial⟩, by simp [intOf]⟩
    · have hix : ∀ W : World, (Instr.index 276 (.agg #[.int .u8 x0, .int .u8 x1, .int .u8 x2, .int .u8 x3, .int .u8 x4, .int .u8 x5, .int .u8 x6, .int .u8 x7, .int .u8 x8, .int .u8 x9, .int .u8 xa, .int .u8 xb, .int .u8 xc]) (.int .i64 9)).run Tryz.prog W = .ok (.int .u8 x9) W := fun W => by kernel_rfl
      go_wp2_with fail
      exact ⟨⟨10, hstep hv x9, by omega, rfl, rfl, by unfold hstep; omega, by show _ = _; rw [HV.out]; rfl, trivial⟩, by simp [intOf]⟩
    · have hix : ∀ W : World, (Instr.index 276 (.agg #[.int .u8 x0, .int .u8 x1, .int .u8 x2, .int .u8 x3, .int .u8 x4, .int .u8 x5, .int .u8 x6, .int .u8 x7, .int .u8 x8, .int .u8 x9, .int .u8 xa, .int .u8 xb, .int .u8 xc]) (.int .i64 10)).run Tryz.prog W = .ok (.int .u8 xa) W := fun W => by kernel_rfl
      go_wp2_with fail
      exact ⟨⟨11, hstep hv xa, by omega, rfl, rfl, by unfold hstep; omega, by show _ = _; rw [HV.out]; rfl, trivial⟩, by simp [intOf]⟩
    · have hix : ∀ W : World, (Instr.index 276 (.agg #[.int .u8 x0, .int .u8 x1, .int .u8 x2, .int .u8 x3, .int .u8 x4, .int .u8 x5, .int .u8 x6, .int .u8 x7, .int .u8 x8, .int .u8 x9, .int .u8 xa, .int .u8 xb, .int .u8 xc]) (.int .i64 11)).run Tryz.prog W = .ok (.int .u8 xb) W := fun W => by kernel_rfl
      go_wp2_with fail
      exact ⟨⟨12, hstep hv xb, by omega, rfl, rfl, by unfold hstep; omega, by show _ = _; rw [HV.out]; rfl, trivial⟩, by simp [intOf]⟩
    · have hix : ∀ W : World, (Instr.index 276 (.agg #[.int .u8 x0, .int .u8 x1, .int .u8 x2, .int .u8 x3, .int .u8 x4, .int .u8 x5, .int .u8 x6, .int .u8 x7, .int .u8 x8, .int .u8 x9, .int .u8 xa, .int .u8 xb, .int .u8 xc]) (.int .i64 12)).run Tryz.prog W = .ok (.int .u8 xc) W := fun W => by kernel_rfl
      go_wp2_with fail
      exact ⟨⟨13, hstep hv xc, by omega, rfl, rfl, by unfold hstep; omega, by show _ = _; rw [HV.out]; rfl, trivial⟩, by simp [intOf]⟩
    · go_wp2_with fail
      exact bodyPost_ret (v := .int .u32 hv) (by simp [results, Tryz.results94, go_sem]) rfl ⟨by rw [HKA.out, HX.out, HV.out]; rfl, hw2⟩
end Go.Proofs.YtohflohdbkamnaaGreatDoor

/- Package table: rows as they lie in memory; which row is a tuple's. -/
namespace Go.Proofs.YtohflohdbkamnaaGreatDoor
open Go.RowKit Go.Shelf
set_option maxRecDepth 100000
set_option linter.unusedVariables false
set_option linter.unusedSimpArgs false

/-- A row: its key, its number, its time, its turn. -/
structure Rw where
  p : Int
  s : Int
  d : Int
  a : Int
  b : Int
  id : Int
  till : Int
  turn : Int
deriving DecidableEq
def rwc (r : Rw) : List Value := [.int .u8 r.p, .int .u32 r.s, .int .u32 r.d, .int .u16 r.a, .int .u16 r.b, .int .i64 r.id, .int .i64 r.till, .int .i64 r.turn]
def rwk (r : Rw) : List Value := [.int .u8 r.p, .int .u32 r.s, .int .u32 r.d, .int .u16 r.a, .int .u16 r.b]
def rws (l : List Rw) : List Value := l.flatMap rwc
theorem rwc_length (r : Rw) : (rwc r).length = 8 := rfl
theorem rws_at : ∀ (l : List Rw) (j i : Nat) (hj : j < l.length), i < 8 → (rws l)[j * 8 + i]? = (rwc l[j])[i]?
  | r :: l, 0, i, _, hi => by
    unfold rws
    rw [List.flatMap_cons, Nat.zero_mul, Nat.zero_add, List.getElem?_append_left (by rw [rwc_length]; exact hi)]
    rfl
  | r :: l, j + 1, i, hj, hi => by
    have ih := rws_at l j i (by simpa using hj) hi
    unfold rws at ih ⊢
    rw [List.flatMap_cons, List.getElem?_append_right (by rw [rwc_length]; omega), rwc_length, show (j + 1) * 8 + i - 8 = j * 8 + i from by omega, ih]
    rfl
/-- The slice value reads as these rows, all of it below block n₀. -/
def RdR (n₀ : Nat) (W : World) (sv : Value) (l : List Rw) : Prop :=
  (∃ a cap, sv = .slice a 0 cap ∧ l = [] ∧ cap ≤ 9223372036854775807 ∧ (a = none → cap = 0)) ∨
  ∃ b off cap, sv = .slice (some ⟨b, off, none⟩) l.length cap ∧ l ≠ [] ∧ l.length ≤ cap ∧ cap ≤ 9223372036854775807 ∧ b < n₀ ∧ ∀ j (hj : j < l.length), ∀ i, i < 8 → W.cell? ⟨b, off + j * 8 + i, none⟩ = (rwc l[j])[i]?
theorem RdR.below {n₀ : Nat} {A B : World} (h : Below n₀ A B) {sv : Value} {l : List Rw} : RdR n₀ A sv l → RdR n₀ B sv l
  | .inl e => .inl e
  | .inr ⟨b, off, cap, e, hne, hl, hm, hb, hc⟩ => .inr ⟨b, off, cap, e, hne, hl, hm, hb, fun j hj i hi => (h.cell (p := ⟨b, off + j * 8 + i, none⟩) hb).trans (hc j hj i hi)⟩
theorem RdR.mono {n₀ n₁ : Nat} {A : World} (h : n₀ ≤ n₁) {sv : Value} {l : List Rw} : RdR n₀ A sv l → RdR n₁ A sv l
  | .inl e => .inl e
  | .inr ⟨b, off, cap, e, hne, hl, hm, hb, hc⟩ => .inr ⟨b, off, cap, e, hne, hl, hm, Nat.lt_of_lt_of_le hb h, hc⟩
theorem RdR.slice {n₀ : Nat} {A : World} {sv : Value} {l : List Rw} : RdR n₀ A sv l → ∃ a cap, sv = .slice a l.length cap ∧ l.length ≤ cap ∧ cap ≤ 9223372036854775807
  | .inl ⟨a, cap, e, hz, hm, _⟩ => ⟨a, cap, by rw [e, hz]; rfl, by rw [hz]; exact Nat.zero_le _, hm⟩
  | .inr ⟨b, off, cap, e, _, hl, hm, _⟩ => ⟨_, cap, e, hl, hm⟩
theorem RdR.cells {n₀ : Nat} {W : World} {sv : Value} {l : List Rw} (h : RdR n₀ W sv l) (hne : 0 < l.length) : ∃ b off cap, sv = .slice (some ⟨b, off, none⟩) l.length cap ∧ l.length ≤ cap ∧ cap ≤ 9223372036854775807 ∧ b < n₀ ∧ ∀ j (hj : j < l.length), ∀ i, i < 8 → W.cell? ⟨b, off + j * 8 + i, none⟩ = (rwc l[j])[i]? := by
  rcases h with ⟨a, cap, _, rfl, _⟩ | ⟨b, off, cap, e, _, hl, hm, hb, hc⟩
  · simp at hne
  · exact ⟨b, off, cap, e, hl, hm, hb, hc⟩
/-- What one's own row of rows reads as. -/
theorem ownR_rd {base : Nat} {W : World} {v : Value} {l : List Rw} (h : W.ownsRow base 126 8 v l.length (rws l)) : RdR W.heap.size W v l := by
  obtain ⟨h1, ⟨rfl, h0⟩ | ⟨g, cap, cur, rfl, hg, hh, hl, hm, hs, hc⟩⟩ := h
  · have : l = [] := List.eq_nil_of_length_eq_zero h0
    subst this
    exact .inl ⟨none, 0, rfl, rfl, by omega, fun _ => rfl⟩
  · by_cases hn : l = []
    · subst hn
      exact .inl ⟨_, cap, rfl, rfl, by simpa [maxLen] using hm, fun h => by cases h⟩
    · refine .inr ⟨g, 0, cap, rfl, hn, hl, by simpa [maxLen] using hm, (Array.getElem?_eq_some_iff.1 hh).1, fun j hj i hi => ?_⟩
      rw [Nat.zero_add, block_cell hh, ← rws_at l j i hj hi, ← hc, List.getElem?_take_of_lt (by omega)]
      simp

/-- Is the row this key's? -/
def isK (kp ks kd ka kb : Int) (r : Rw) : Bool := r.p == kp && (r.s == ks && (r.d == kd && (r.a == ka && r.b == kb)))

set_option maxHeartbeats 2000000 in
theorem of_key (p s d a b : Int) (w : World) : Calls Tryz.prog 95 #[.agg #[.int .u8 p, .int .u32 s, .int .u32 d, .int .u16 a, .int .u16 b]] w fun e w' => ∃ g, e = .returned (.func (.func 155) #[] #[.pointer (some ⟨g, 0, none⟩)]) ∧ Below w.heap.size w w' ∧ w.heap.size ≤ g ∧ w'.heap[g]? = some (.cells #[.int .u8 p, .int .u32 s, .int .u32 d, .int .u16 (kyp p a), .int .u16 b] 69 (0, 0)) := by
  have hb0 : Below w.heap.size w (w.alloc (.cells #[.int .u8 p, .int .u32 s, .int .u32 d, .int .u16 a, .int .u16 b] 69)) := (Below.refl _ _).alloc (Nat.le_refl _) _
  go_enter Tryz.func95, Tryz.ntmps95
  go_wp2_with fail
  generalize w.alloc (.cells #[.int .u8 p, .int .u32 s, .int .u32 d, .int .u16 a, .int .u16 b] 69) = w0 at *
  refine (key_any p s d a b w0).mono ?_
  rintro e w1 ⟨rfl, hb1⟩
  generalize hk : kyp p a = ka at *
  have HK := hide hk
  clear hk
  have hw1 := hb0.trans (hb1.mono hb0.size)
  have la : Later w1 (w1.alloc (.cells #[.int .u8 p, .int .u32 s, .int .u32 d, .int .u16 ka, .int .u16 b] 69)) := (Below.refl _ _).alloc (Nat.le_refl _) _
  have gk := heap_alloc_new w1 (.cells #[.int .u8 p, .int .u32 s, .int .u32 d, .int .u16 ka, .int .u16 b] 69)
  have hw2 := hw1.trans (la.mono hw1.size)
  have hsz := hw1.size
  go_wp2_with fail
  go_ret
  exact ⟨w1.heap.size, rfl, hw2, hsz, by rw [HK.out]; exact gk⟩

set_option maxHeartbeats 2000000 in
theorem is_any (r : Rw) (g : Nat) (kp ks kd ka kb : Int) (w : World) (hg : w.heap[g]? = some (.cells #[.int .u8 kp, .int .u32 ks, .int .u32 kd, .int .u16 ka, .int .u16 kb] 69 (0, 0))) :
    Calls Tryz.prog 155 #[.agg (rwc r).toArray, .pointer (some ⟨g, 0, none⟩)] w fun e w' => e = .returned (.bool (isK kp ks kd ka kb r)) ∧ Below w.heap.size w w' := by
  obtain ⟨p, s, d, a, b, id, till, turn⟩ := r
  unfold rwc isK
  have hb0 : Below w.heap.size w (w.alloc (.cells #[.int .u8 p, .int .u32 s, .int .u32 d, .int .u16 a, .int .u16 b, .int .i64 id, .int .i64 till, .int .i64 turn] 126)) := (Below.refl _ _).alloc (Nat.le_refl _) _
  have kg := block_cell (later_keep hb0 hg)
  go_enter Tryz.func155, Tryz.ntmps155
  go_wp2_with fail
  all_goals go_ret
  all_goals exact ⟨by simp_all, (Below.refl _ _).alloc (Nat.le_refl _) _⟩
end Go.Proofs.YtohflohdbkamnaaGreatDoor

/- Package table: where a key's row stands in a list; lists of buckets; find. -/
namespace Go.Proofs.YtohflohdbkamnaaGreatDoor
open Go.RowKit Go.Shelf
set_option maxRecDepth 100000
set_option linter.unusedVariables false
set_option linter.unusedSimpArgs false

def kix (kp ks kd ka kb : Int) (l : List Rw) : Option Nat := l.findIdx? (isK kp ks kd ka kb)
theorem kix_none {kp ks kd ka kb : Int} {l : List Rw} (h : ∀ j (hj : j < l.length), isK kp ks kd ka kb l[j] = false) : kix kp ks kd ka kb l = none := by
  unfold kix
  rw [List.findIdx?_eq_none_iff]
  intro r hr
  obtain ⟨j, hj, rfl⟩ := List.getElem_of_mem hr
  exact h j hj
theorem kix_some {kp ks kd ka kb : Int} {l : List Rw} {k : Nat} (hk : k < l.length) (h : ∀ j (hj : j < l.length), j < k → isK kp ks kd ka kb l[j] = false) (ht : isK kp ks kd ka kb l[k] = true) : kix kp ks kd ka kb l = some k := by
  unfold kix
  rw [List.findIdx?_eq_some_iff_getElem]
  exact ⟨hk, ht, fun j hj => by simpa using h j (by omega) hj⟩

set_option maxHeartbeats 4000000 in
theorem index_any (n₀ g : Nat) (sv : Value) (l : List Rw) (kp ks kd ka kb : Int) (w : World) (hn : n₀ ≤ w.heap.size) (hI : RdR n₀ w sv l) (hg : w.heap[g]? = some (.cells #[.int .u8 kp, .int .u32 ks, .int .u32 kd, .int .u16 ka, .int .u16 kb] 69 (0, 0))) :
    Calls Tryz.prog 206 #[sv, .func (.func 155) #[] #[.pointer (some ⟨g, 0, none⟩)]] w fun e w' => Below w.heap.size w w' ∧ ((kix kp ks kd ka kb l = none ∧ e = .returned (.int .i64 (-1))) ∨ ∃ k : Nat, kix kp ks kd ka kb l = some k ∧ k < l.length ∧ e = .returned (.int .i64 (k : Int))) := by
  obtain ⟨a, cap, rfl, hc1, hc2⟩ := hI.slice
  have hlb : (l.length : Int) ≤ 9223372036854775807 := by omega
  go_enter Tryz.func206, Tryz.ntmps206
  go_wp2_with fail
  go_loopw [8] (fun i wr => ∃ k : Nat, k ≤ l.length ∧ i = .int .i64 (k : Int) ∧ (∀ j (hj : j < l.length), j < k → isK kp ks kd ka kb l[j] = false) ∧ Below w.heap.size w wr) (fun i _ => l.length - (intOf i).toNat)
  case atStart => exact ⟨0, by omega, rfl, fun j _ h => by omega, Below.refl _ _⟩
  case round =>
    obtain ⟨k, hk, rfl, hz, hbw⟩ := hrel
    have HZ := hide hz
    clear hz
    by_cases hlt : k < l.length
    · obtain ⟨b, off, cp, e, _, _, hbb, hcs⟩ := (hI.below (hbw.mono hn)).cells (by omega)
      simp at e
      obtain ⟨rfl, rfl⟩ := e
      have hgr := later_keep hbw hg
      have c0 := hcs k hlt 0 (by omega)
      have c1 := hcs k hlt 1 (by omega)
      have c2 := hcs k hlt 2 (by omega)
      have c3 := hcs k hlt 3 (by omega)
      have c4 := hcs k hlt 4 (by omega)
      have c5 := hcs k hlt 5 (by omega)
      have c6 := hcs k hlt 6 (by omega)
      have c7 := hcs k hlt 7 (by omega)
      have hlt' : (k : Int) < l.length := by omega
      clear hcs
      generalize hgo : l[k] = r at *
      have HGO := hide hgo
      clear hgo
      have HR : Hid (Value.agg (rwc r).toArray = .agg #[.int .u8 r.p, .int .u32 r.s, .int .u32 r.d, .int .u16 r.a, .int .u16 r.b, .int .i64 r.id, .int .i64 r.till, .int .i64 r.turn]) := rfl
      have hci := is_any r g kp ks kd ka kb wr hgr
      rw [HR.out] at hci
      simp only [rwc, List.getElem?_cons_zero, List.getElem?_cons_succ, Nat.add_zero] at c0 c1 c2 c3 c4 c5 c6 c7
      have HCI := hide hci
      clear hci
      go_wp2_with fail
      refine HCI.out.mono ?_
      rintro e w' ⟨rfl, hb'⟩
      have hw' := hbw.trans (hb'.mono hbw.size)
      cases ht : isK kp ks kd ka kb r with
      | true =>
        have HTT := hide ht
        clear ht c0 c1 c2 c3 c4 c5 c6 c7
        go_wp2_with fail
        go_ret
        exact ⟨hw', .inr ⟨k, kix_some hlt HZ.out (by rw [HGO.out]; exact HTT.out), hlt, rfl⟩⟩
      | false =>
        have HTT := hide ht
        clear ht c0 c1 c2 c3 c4 c5 c6 c7
        go_wp2_with fail
        go_roundw
        case rel => exact ⟨k + 1, by omega, by go_num, fun j hj hjk => by by_cases h : j = k; (subst h; rw [HGO.out]; exact HTT.out); exact HZ.out j hj (by omega), hw'⟩
        case measure => simp [intOf]; omega
    · obtain rfl : k = l.length := by omega
      go_wp2_with fail
      go_ret
      exact ⟨hbw, .inl ⟨kix_none (fun j hj => HZ.out j hj hj), rfl⟩⟩

/-- A table as it lies in memory: at block b; its lists, each in a block of its own. -/
def TBv (base : Nat) (W : World) (b : Nat) (lim cnt trn : Int) (vs : List Value) (ls : Nat → List Rw) : Prop :=
  vs.length = 256 ∧ base ≤ b ∧ W.heap[b]? = some (.cells (.int .i64 lim :: .int .i64 cnt :: .int .i64 trn :: vs).toArray 123 (0, 0)) ∧
  (∀ i, i < 256 → W.ownsRow base 126 8 (vs[i]?.getD undef) (ls i).length (rws (ls i))) ∧
  ∀ i j, i < 256 → j < 256 → i ≠ j → ∀ g, (vs[i]?.getD undef).ownBlock = some g → (vs[j]?.getD undef).ownBlock ≠ some g
def TB (base : Nat) (W : World) (b : Nat) (lim cnt trn : Int) (ls : Nat → List Rw) : Prop := ∃ vs, TBv base W b lim cnt trn vs ls
theorem ownR_later {base : Nat} {A B : World} {v : Value} {n : Nat} {xs : List Value} (h : A.ownsRow base 126 8 v n xs) (l : Later A B) : B.ownsRow base 126 8 v n xs := by
  obtain ⟨h1, h2 | ⟨g, cap, cur, hv, hg, hh, r⟩⟩ := h
  · exact ⟨h1, .inl h2⟩
  · exact ⟨h1, .inr ⟨g, cap, cur, hv, hg, later_keep l hh, r⟩⟩
theorem TBv.later {base : Nat} {A B : World} {b : Nat} {lim cnt trn : Int} {vs : List Value} {ls : Nat → List Rw} (h : TBv base A b lim cnt trn vs ls) (l : Later A B) : TBv base B b lim cnt trn vs ls :=
  ⟨h.1, h.2.1, later_keep l h.2.2.1, fun i hi => ownR_later (h.2.2.2.1 i hi) l, h.2.2.2.2⟩
theorem TB.later {base : Nat} {A B : World} {b : Nat} {lim cnt trn : Int} {ls : Nat → List Rw} (h : TB base A b lim cnt trn ls) (l : Later A B) : TB base B b lim cnt trn ls := by
  obtain ⟨vs, h⟩ := h
  exact ⟨vs, h.later l⟩
theorem TBv.cell {base : Nat} {W : World} {b : Nat} {lim cnt trn : Int} {vs : List Value} {ls : Nat → List Rw} (h : TBv base W b lim cnt trn vs ls) (i : Nat) (hi : i < 256) : W.cell? ⟨b, 3 + i, none⟩ = some (vs[i]?.getD undef) := by
  rw [block_cell h.2.2.1]
  simp only [List.getElem?_toArray]
  rw [show 3 + i = i + 1 + 1 + 1 from by omega]
  simp [show i < vs.length from by rw [h.1]; exact hi]

set_option maxHeartbeats 1000000 in
theorem list_any (b : Nat) (h : Int) (w : World) (hh : 0 ≤ h ∧ h ≤ 4294967295) :
    Calls Tryz.prog 152 #[.pointer (some ⟨b, 3, none⟩), .int .u32 h] w fun e w' => e = .returned (.pointer (some ⟨b, 3 + (h % 256).toNat, none⟩)) ∧ w' = w := by
  obtain ⟨r, hr⟩ : ∃ r : Nat, h % 256 = (r : Int) := ⟨(h % 256).toNat, by omega⟩
  have hrt : h.tmod 256 = (r : Int) := by rw [Int.tmod_eq_emod_of_nonneg hh.1]; exact hr
  have hr3 : (r : Int) < 256 := by omega
  rw [hr, Int.toNat_natCast]
  have HR := hide hr
  clear hr
  go_enter Tryz.func152, Tryz.ntmps152
  go_wp2_with fail
  go_ret
  exact ⟨by simp, rfl⟩

set_option maxHeartbeats 2000000 in
theorem bfind_any (base b g : Nat) (lim cnt trn : Int) (vs : List Value) (ls : Nat → List Rw) (h : Int) (kp ks kd ka kb : Int) (w : World) (hT : TBv base w b lim cnt trn vs ls) (hh : 0 ≤ h ∧ h ≤ 4294967295) (hg : w.heap[g]? = some (.cells #[.int .u8 kp, .int .u32 ks, .int .u32 kd, .int .u16 ka, .int .u16 kb] 69 (0, 0))) :
    Calls Tryz.prog 151 #[.pointer (some ⟨b, 3, none⟩), .int .u32 h, .func (.func 155) #[] #[.pointer (some ⟨g, 0, none⟩)]] w fun e w' => Below w.heap.size w w' ∧
      ((kix kp ks kd ka kb (ls (h % 256).toNat) = none ∧ e = .returned (.pointer none)) ∨ ∃ k g2 cap, kix kp ks kd ka kb (ls (h % 256).toNat) = some k ∧ k < (ls (h % 256).toNat).length ∧ vs[(h % 256).toNat]?.getD undef = .slice (some ⟨g2, 0, none⟩) (ls (h % 256).toNat).length cap ∧ e = .returned (.pointer (some ⟨g2, k * 8, none⟩))) := by
  have hi : (h % 256).toNat < 256 := by omega
  have hc := hT.cell _ hi
  have hO := hT.2.2.2.1 _ hi
  generalize hii : (h % 256).toNat = i at *
  have HI := hide hii
  clear hii
  generalize hvs : vs[i]?.getD undef = v at *
  have HVS := hide hvs
  clear hvs
  have hR := ownR_rd hO
  have HO := hide hO
  clear hO
  obtain ⟨a, cap, rfl, hcp, hcm⟩ := hR.slice
  go_enter Tryz.func151, Tryz.ntmps151
  go_wp2_with fail
  refine (list_any b h w hh).mono ?_
  rw [HI.out]
  rintro e w1 ⟨rfl, rfl⟩
  go_wp2_with fail
  refine (index_any w1.heap.size g _ (ls i) kp ks kd ka kb w1 (Nat.le_refl _) hR hg).mono ?_
  rintro e w2 ⟨hb2, ⟨hk, rfl⟩ | ⟨k, hk, hkl, rfl⟩⟩
  · have HK := hide hk
    clear hk hc
    go_wp2_with fail
    go_ret
    exact ⟨hb2, .inl ⟨HK.out, rfl⟩⟩
  · have HK := hide hk
    clear hk hc
    obtain ⟨_, ⟨_, h0⟩ | ⟨g2, cap2, cur, e2, _⟩⟩ := HO.out
    · omega
    simp at e2
    obtain ⟨rfl, rfl⟩ := e2
    have hkl' : (k : Int) < (ls i).length := by omega
    go_wp2_with fail
    go_ret
    exact ⟨hb2, .inr ⟨k, g2, cap, HK.out, hkl, rfl, rfl⟩⟩
end Go.Proofs.YtohflohdbkamnaaGreatDoor
