/- Copies of bytes with some changed: clone, set16, set32, Put16, Put32 and the document's answers for them. -/
import Derived.OwnWalk
import Derived.Laws.OwnMore
import Derived.Laws.AppendOwnNone
import Derived.Test.YtibjgaelaijgpaaGreatDoorW5
namespace Go.Proofs.YtibjgaelaijgpaaGreatDoor
open Go.RowKit Go.Shelf
set_option maxRecDepth 100000

/-- A slice of bytes of the call's own: nil and none of them; or a block from base on whose first cells they are. -/
def Ow (base : Nat) (W : World) (sv : Value) (zs : List Int) : Prop :=
  (sv = .slice none 0 0 ∧ zs = []) ∨
  ∃ g cap cur, sv = .slice (some ⟨g, 0, none⟩) zs.length cap ∧ base ≤ g ∧ zs.length ≤ cap ∧ cap ≤ cur.size ∧ cap ≤ 9223372036854775807 ∧ W.heap[g]? = some (.cells cur 5 (0, 0)) ∧ cur.toList.take zs.length = zs.map (Value.int .u8)

theorem cur_at {cur : Array Value} {zs : List Int} (h : cur.toList.take zs.length = zs.map (Value.int .u8)) (j : Nat) (hj : j < zs.length) : cur[j]? = some (.int .u8 (zs[j]?.getD 0)) := by
  have h1 : (cur.toList.take zs.length)[j]? = some (.int .u8 (zs[j]?.getD 0)) := by rw [h]; simp [hj]
  rw [List.getElem?_take, if_pos hj] at h1
  simpa using h1
theorem block_cell {W : World} {g : Nat} {cur : Array Value} {e : TypeId} (h : W.heap[g]? = some (.cells cur e (0, 0))) (j : Nat) : W.cell? ⟨g, j, none⟩ = cur[j]? := by
  simp only [World.cell?, h]
  rfl
theorem block_frozen {W : World} {g : Nat} {cur : Array Value} {e : TypeId} (h : W.heap[g]? = some (.cells cur e (0, 0))) (j : Nat) : W.frozen? ⟨g, j, none⟩ = false := by
  simp [World.frozen?, h]

theorem Ow.rd {base : Nat} {W : World} {sv : Value} {zs : List Int} : Ow base W sv zs → Rd W.heap.size W sv zs
  | .inl ⟨e, hz⟩ => .inl ⟨none, 0, e, hz, by omega, fun _ => rfl⟩
  | .inr ⟨g, cap, cur, e, hb, hl, hs, hm, hh, hc⟩ => by
    have hg := (Array.getElem?_eq_some_iff.1 hh).1
    by_cases h0 : zs = []
    · subst h0
      exact .inl ⟨_, cap, e, rfl, hm, fun h => by cases h⟩
    · refine .inr ⟨g, 0, cap, e, h0, hl, hm, hg, fun j hj => ?_⟩
      rw [Nat.zero_add, block_cell hh]
      exact cur_at hc j hj
theorem Ow.below {base n : Nat} {W W' : World} {sv : Value} {zs : List Int} (h : Ow base W sv zs) (hb : Below n W W') (hn : W.heap.size ≤ n) : Ow base W' sv zs := by
  rcases h with e | ⟨g, cap, cur, e, hg, hl, hs, hm, hh, hc⟩
  · exact .inl e
  · exact .inr ⟨g, cap, cur, e, hg, hl, hs, hm, (hb.block g (Nat.lt_of_lt_of_le (Array.getElem?_eq_some_iff.1 hh).1 hn)).trans hh, hc⟩
theorem Ow.mono {base base' : Nat} {W : World} {sv : Value} {zs : List Int} (h : Ow base W sv zs) (hb : base' ≤ base) : Ow base' W sv zs := by
  rcases h with e | ⟨g, cap, cur, e, hg, r⟩
  · exact .inl e
  · exact .inr ⟨g, cap, cur, e, Nat.le_trans hb hg, r⟩
theorem Ow.of_row {base n : Nat} {W : World} {v : Value} {zs : List Int} (h : W.ownsRow base 5 1 v n (zs.map (Value.int .u8))) : Ow base W v zs := by
  obtain ⟨hlen, h2⟩ := h
  obtain rfl : zs.length = n := by simpa using hlen
  rcases h2 with ⟨e, h0⟩ | ⟨g, cap, cur, e, hg, hh, hl, hm, hs, hc⟩
  · exact .inl ⟨e, by simpa using h0⟩
  · exact .inr ⟨g, cap, cur, e, hg, hl, by omega, by simpa [maxLen] using hm, hh, by simpa using hc⟩
theorem Ow.slice {base : Nat} {W : World} {sv : Value} {zs : List Int} (h : Ow base W sv zs) : ∃ a cap, sv = .slice a zs.length cap ∧ zs.length ≤ cap ∧ cap ≤ 9223372036854775807 := h.rd.slice
/-- Its address, where it has a byte: what a store wants, and what it leaves. -/
theorem Ow.at {base : Nat} {W : World} {a : Option Addr} {len cap : Nat} {zs : List Int} (h : Ow base W (.slice a len cap) zs) (hne : 0 < zs.length) : ∃ g, a = some ⟨g, 0, none⟩ ∧ len = zs.length ∧ base ≤ g ∧ (∀ j, j < zs.length → W.cell? ⟨g, j, none⟩ = some (.int .u8 (zs[j]?.getD 0)) ∧ W.frozen? ⟨g, j, none⟩ = false) ∧
    ∀ j v, j < zs.length → Ow base (W.setCell ⟨g, j, none⟩ (.int .u8 v)) (.slice a len cap) (zs.set j v) := by
  rcases h with ⟨e, hz⟩ | ⟨g, cap', cur, e, hg, hl, hs, hm, hh, hc⟩
  · subst hz; simp at hne
  · cases e
    refine ⟨g, rfl, rfl, hg, fun j hj => ⟨by rw [block_cell hh]; exact cur_at hc j hj, block_frozen hh j⟩, fun j v hj => .inr ⟨g, cap, cur.set! j (.int .u8 v), by simp, hg, by simpa using hl, by simpa using hs, hm, ?_, ?_⟩⟩
    · obtain ⟨hlt, hk⟩ := Array.getElem?_eq_some_iff.1 hh
      show (W.heap.modify g _)[g]? = _
      rw [Array.getElem?_eq_getElem (by rw [Array.size_modify]; exact hlt), Array.getElem_modify_self, hk]
      simp
    · simp only [Array.set!_eq_setIfInBounds, Array.toList_setIfInBounds, List.length_set, List.take_set, hc, List.map_set]

/-- Its capacity cut to its length. -/
theorem Ow.cut {base : Nat} {W : World} {a : Option Addr} {len cap : Nat} {zs : List Int} (h : Ow base W (.slice a len cap) zs) : Ow base W (.slice a len len) zs := by
  rcases h with ⟨e, hz⟩ | ⟨g, cap', cur, e, hg, hl, hs, hm, hh, hc⟩
  · cases e
    exact .inl ⟨rfl, hz⟩
  · cases e
    exact .inr ⟨g, zs.length, cur, rfl, hg, Nat.le_refl _, Nat.le_trans hl hs, Nat.le_trans hl hm, hh, hc⟩

section
variable {P : Program}
/-- append(v, x...), v of the call's own, x bytes wherever they lie. -/
theorem wpList_app {ops : Array Oper} {rest : List Oper} {o : Oper} {a : Act} {Q : Exit → Act → World → Prop} (w : World) (hgd : o.guard = none) (s x : Operand) (t : TypeId)
    (ho : o.op = .call { callee := .builtin .append, args := #[s, x], argTypes := #[t, t] })
    (base : Nat) (e : TypeId) (i : TypeInfo) (ht : P.underlying t = some (.slice e)) (hi : P.info? e = some i) (hz : i.zero = some (.int .u8 0)) (hsize : i.size = 1) (hby : i.bytes = 1)
    (v : Value) (ys : List Int) (hs : a.eval s = v) (hown : w.ownsRow base e 1 v ys.length (ys.map (Value.int .u8)))
    (n₀ : Nat) (sx : Value) (zs : List Int) (hx : a.eval x = sx) (hI : Rd n₀ w sx zs) (hbd : ys.length + zs.length ≤ 140737488355328) (hbase : base ≤ w.heap.size)
    (h : ∀ v' w', w'.ownsRow base e 1 v' (ys ++ zs).length ((ys ++ zs).map (Value.int .u8)) → w.grownBy w' v.ownBlock → wpList P ops Q rest (a.put o.dst v') w') : wpList P ops Q (o :: rest) a w := by
  rcases hI with ⟨ao, cap, rfl, rfl, hm, hn⟩ | ⟨b, off, cap, rfl, hne, hl, hm, hb, hc⟩
  · cases ao with
    | none =>
      obtain rfl := hn rfl
      refine wpList_append_own_none hgd s x t ho base e i 1 ht hi v _ _ hs hown hx (h v w (by simpa using hown) ⟨rfl, rfl, rfl, Nat.le_refl _, fun _ _ _ => rfl⟩)
    | some ad =>
      refine wpList_append_own w hgd s x t ho base e i (.int .u8 0) 1 1 ht hi hz hsize hby rfl (by decide) v _ _ hs hown ad 0 cap [] hx rfl (fun j u hj => by simp at hj) (fun u hu => by simp at hu) (by unfold maxLen; omega) (by omega) hbase ?_
      intro v' w' hown' hg _
      exact h v' w' (by simpa using hown') hg
  · refine wpList_append_own w hgd s x t ho base e i (.int .u8 0) 1 1 ht hi hz hsize hby rfl (by decide) v _ _ hs hown ⟨b, off, none⟩ zs.length cap (zs.map (Value.int .u8)) hx (by simp) ?_ ?_ (by unfold maxLen; omega) (by omega) hbase ?_
    · intro j u hj
      have hj' : j < zs.length := by have := (List.getElem?_eq_some_iff.1 hj).1; simpa using this
      rw [show (⟨b, off, none⟩ : Addr).add j = ⟨b, off + j, none⟩ from by unfold Addr.add; split <;> simp_all, hc j hj', ← hj]
      simp [hj']
    · intro u hu
      obtain ⟨z, _, rfl⟩ := List.mem_map.1 hu
      rfl
    · intro v' w' hown' hg _
      exact h v' w' (by simpa using hown') hg
end

theorem below_app {B base n size : Nat} {e : TypeId} {a W W' : World} {v : Value} {xs : List Value} (hb : Below B a W) (ho : W.ownsRow base e size v n xs) (hg : W.grownBy W' v.ownBlock) (h1 : B ≤ base) (h2 : B ≤ W.heap.size) : Below B a W' :=
  hb.grown hg h2 (fun k e => Nat.le_trans h1 (ho.lt k e).1)
theorem Ow.grown {base : Nat} {row : Option Nat} {W W' : World} {sv : Value} {zs : List Int} (h : Ow base W sv zs) (hg : W.grownBy W' row) (hr : ∀ k, row = some k → k < base) : Ow base W' sv zs := by
  rcases h with e | ⟨g, cap, cur, e, hb, hl, hs, hm, hh, hc⟩
  · exact .inl e
  · exact .inr ⟨g, cap, cur, e, hb, hl, hs, hm, (hg.block g (Array.getElem?_eq_some_iff.1 hh).1 (fun e => by have := hr g e.symm; omega)).trans hh, hc⟩
/-- An empty row just laid. -/
theorem own_empty (w : World) (e : TypeId) : (w.alloc (.cells #[] e)).ownsRow w.heap.size e 1 (.slice (some ⟨w.heap.size, 0, none⟩) 0 0) ([] : List Int).length (([] : List Int).map (Value.int .u8)) :=
  World.ownsRow_made w #[] 0 (Nat.le_refl _) (by simp) rfl

/-- Four bytes changed. -/
def put4 (zs : List Int) (k : Nat) (v : Int) : List Int := Mt.put2 (Mt.put2 zs k (v / 65536)) (k + 2) (v % 65536)
/-- Two bytes changed where both are there, else none. -/
def putAt2 (zs : List Int) (p : Int) (v : Int) : List Int := if 0 ≤ p ∧ p + 2 ≤ zs.length then Mt.put2 zs p.toNat v else zs
def putAt4 (zs : List Int) (p : Int) (v : Int) : List Int := if 0 ≤ p ∧ p + 4 ≤ zs.length then put4 zs p.toNat v else zs
end Go.Proofs.YtibjgaelaijgpaaGreatDoor
