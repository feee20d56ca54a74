/- Package segs: a header that grows. -/
import Derived.Test.YtomdccljoaieeaaDoorV5
import Derived.Test.YtomdccljoaieeaaDoorRk
namespace Go.Proofs.YtomdccljoaieeaaDoor
open Go.RowKit Go.Shelf
set_option maxRecDepth 100000
set_option linter.unusedVariables false
set_option linter.unusedSimpArgs false

/-- The block ub holds a slice of one's own, read as ys, and tl behind it; the slice's block is none of N. -/
def HSt (tl : List Value) (t : TypeId) (ub : Nat) (N : Nat → Prop) (ys : List Int) (W : World) : Prop :=
  ∃ v, W.heap[ub]? = some (.cells (v :: tl).toArray t (0, 0)) ∧ W.ownsRow (ub + 1) 5 1 v ys.length (ys.map (Value.int .u8)) ∧ ∀ b, v.ownBlock = some b → ¬ N b
theorem HSt.lt {tl : List Value} {t : TypeId} {ub : Nat} {N : Nat → Prop} {ys : List Int} {W : World} (h : HSt tl t ub N ys W) : ub < W.heap.size := by
  obtain ⟨v, h1, _⟩ := h
  exact (Array.getElem?_eq_some_iff.1 h1).1
theorem HSt.alloc {tl : List Value} {t : TypeId} {ub : Nat} {N : Nat → Prop} {ys : List Int} {W : World} (h : HSt tl t ub N ys W) (o : Obj) : HSt tl t ub (fun b => N b ∨ b = W.heap.size) ys (W.alloc o) := by
  obtain ⟨v, h1, h2, h3⟩ := h
  exact ⟨v, (Below.heap_alloc W o ub (Array.getElem?_eq_some_iff.1 h1).1).trans h1, h2.alloc o, fun b hb hN => hN.elim (h3 b hb) (fun e => by have := (h2.lt b hb).2; omega)⟩
theorem HSt.weaken {tl : List Value} {t : TypeId} {ub : Nat} {N N' : Nat → Prop} {ys : List Int} {W : World} (h : HSt tl t ub N ys W) (hN : ∀ b, N' b → N b) : HSt tl t ub N' ys W := by
  obtain ⟨v, h1, h2, h3⟩ := h
  exact ⟨v, h1, h2, fun b hb hn => h3 b hb (hN b hn)⟩

/-- append, and where what it yields lies: where it lay, or in a new block. -/
theorem run_app3 {P : Program} (w : World) (t ty e : TypeId) (base : Nat) (i : TypeInfo) (ht : P.underlying t = some (.slice e)) (hi : P.info? e = some i) (hz : i.zero = some (.int .u8 0)) (hsize : i.size = 1) (hby : i.bytes = 1)
    (v : Value) (ys : List Int) (hown : w.ownsRow base e 1 v ys.length (ys.map (Value.int .u8)))
    (n₀ : Nat) (sx : Value) (zs : List Int) (hI : Rd n₀ w sx zs) (hbd : ys.length + zs.length ≤ 140737488355328) (hbase : base ≤ w.heap.size) :
    ∃ v' w', (Builtin.append_ #[t, t] ty #[v, sx]).run P w = .ok v' w' ∧ w'.ownsRow base e 1 v' (ys ++ zs).length ((ys ++ zs).map (Value.int .u8)) ∧ w.grownBy w' v.ownBlock ∧ ∀ b, v'.ownBlock = some b → v.ownBlock = some b ∨ w.heap.size ≤ b := by
  obtain ⟨v', w', hr, h2, h3⟩ := run_app (P := P) w t ty e base i ht hi hz hsize hby v ys hown n₀ sx zs hI hbd hbase
  refine ⟨v', w', hr, h2, h3, ?_⟩
  rcases hown.2 with ⟨rfl, hnil⟩ | ⟨g, cap, cur, rfl, hg, hh, hl, hm, hs, hc⟩
  · have hy : ys = [] := by simpa using hnil
    subst hy
    obtain ⟨v2, w2, hr2, h22, _⟩ := run_app (P := P) w t ty e w.heap.size i ht hi hz hsize hby (.slice none 0 0) [] (World.ownsRow_nil _ _ _ _) n₀ sx zs hI hbd (Nat.le_refl _)
    obtain ⟨rfl, rfl⟩ : v' = v2 ∧ w' = w2 := by rw [hr] at hr2; simpa using hr2
    intro b hb
    exact .inr (h22.lt b hb).1
  · rcases hI with ⟨ao, cp, rfl, rfl, hm2, hn⟩ | ⟨b, off, cp, rfl, hne, hl2, hm2, hb2, hc2⟩
    · have hv : v' = .slice (some ⟨g, 0, none⟩) ys.length cap := by
        cases ao with
        | none =>
          obtain rfl := hn rfl
          have := run_append_owned_none w base t ty e i 1 ht hi _ _ _ hown
          rw [hr] at this
          simp at this
          exact this.1
        | some ad =>
          have := run_append_room_cells (P := P) w t ty e i ht hi g 0 ys.length cap ad 0 cp [] (by simp) (fun j u hj => by simp at hj) (fun u hu => by simp at hu) (by omega) (fun j hj => by simp at hj) (fun j hj => by simp at hj)
          rw [hr] at this
          simp at this
          exact this.1
      subst hv
      intro b hb
      exact .inl hb
    · have hnews : ∀ j u, (zs.map (Value.int .u8))[j]? = some u → w.cell? ((⟨b, off, none⟩ : Addr).add j) = some u := fun j u hj => by
        have hj' : j < zs.length := by have := (List.getElem?_eq_some_iff.1 hj).1; simpa using this
        rw [show (⟨b, off, none⟩ : Addr).add j = ⟨b, off + j, none⟩ from by unfold Addr.add; split <;> simp_all, hc2 j hj', ← hj]
        simp [hj']
      by_cases hroom : ys.length + zs.length ≤ cap
      · have := run_append_room_cells (P := P) w t ty e i ht hi g 0 ys.length cap ⟨b, off, none⟩ zs.length cp (zs.map (Value.int .u8)) (by rw [hsize]; simp) hnews (fun u hu => by obtain ⟨z, _, rfl⟩ := List.mem_map.1 hu; rfl) hroom
          (fun j hj => by rw [block_cell hh, hsize]; simp at hj; simp; omega) (fun j hj => by rw [block_frozen hh])
        rw [hr] at this
        simp at this
        obtain ⟨rfl, _⟩ := this
        intro b' hb'
        exact .inl hb'
      · obtain ⟨v2, w2, hr2, h22, _⟩ := run_append_arg_grows (P := P) w t ty e i (.int .u8 0) 1 1 ht hi hz hsize hby rfl (by decide) ⟨g, 0, none⟩ ys.length cap (ys.map (Value.int .u8)) (by simp)
          (fun j u hj => by
            have hj' : j < ys.length := by have := (List.getElem?_eq_some_iff.1 hj).1; simpa using this
            rw [show (⟨g, 0, none⟩ : Addr).add j = ⟨g, j, none⟩ from by unfold Addr.add; split <;> simp_all, block_cell hh]
            have h5 := congrArg (·[j]?) hc
            simp only [Nat.mul_one] at h5
            rw [List.getElem?_take_of_lt (by omega)] at h5
            rw [← hj, ← h5]
            simp)
          ⟨b, off, none⟩ zs.length cp (zs.map (Value.int .u8)) (by simp) hnews (by omega) (by unfold maxLen; omega) (by omega)
        obtain ⟨rfl, rfl⟩ : v' = v2 ∧ w' = w2 := by rw [hr] at hr2; simpa using hr2
        intro b' hb'
        exact .inr (h22.lt b' hb').1

theorem wpList_app3 {P : Program} {ops : Array Oper} {rest : List Oper} {o : Oper} {a : Act} {Q : Exit → Act → World → Prop} (w : World) (hgd : o.guard = none) (s x : Operand) (t : TypeId)
    (ho : o.op = .call { callee := .builtin .append, args := #[s, x], argTypes := #[t, t] })
    (base : Nat) (e : TypeId) (i : TypeInfo) (ht : P.underlying t = some (.slice e)) (hi : P.info? e = some i) (hz : i.zero = some (.int .u8 0)) (hsize : i.size = 1) (hby : i.bytes = 1)
    (v : Value) (ys : List Int) (hs : a.eval s = v) (hown : w.ownsRow base e 1 v ys.length (ys.map (Value.int .u8)))
    (n₀ : Nat) (sx : Value) (zs : List Int) (hx : a.eval x = sx) (hI : Rd n₀ w sx zs) (hbd : ys.length + zs.length ≤ 140737488355328) (hbase : base ≤ w.heap.size)
    (h : ∀ v' w', w'.ownsRow base e 1 v' (ys ++ zs).length ((ys ++ zs).map (Value.int .u8)) → w.grownBy w' v.ownBlock → (∀ b, v'.ownBlock = some b → v.ownBlock = some b ∨ w.heap.size ≤ b) → wpList P ops Q rest (a.put o.dst v') w') : wpList P ops Q (o :: rest) a w := by
  obtain ⟨v', w', hr, h2, h3, h4⟩ := run_app3 (P := P) w t o.type e base i ht hi hz hsize hby v ys hown n₀ sx zs hI hbd hbase
  exact wpList_plain hgd fun K hK => wp_app s x t ho v sx hs hx v' w' hr (hK _ _ (h v' w' h2 h3 h4))

set_option maxHeartbeats 1000000 in
theorem put_any (tl : List Value) (t : TypeId) (ub : Nat) (N : Nat → Prop) (ys : List Int) (sx : Value) (zs : List Int) (n₀ : Nat) (w : World) (h : HSt tl t ub N ys w) (hN : ∀ b, N b → b < w.heap.size ∧ b ≠ ub) (hI : Rd n₀ w sx zs) (hl : ys.length + zs.length ≤ 140737488355328) :
    Calls Tryd.prog 27 #[.pointer (some ⟨ub, 0, none⟩), sx] w fun e w' => e = .returned (.tuple #[]) ∧ HSt tl t ub N (ys ++ zs) w' ∧ But (fun b => ub ≤ b ∧ ¬ N b) w w' := by
  obtain ⟨i0, hi, hz0, hz1, hz2⟩ := info_parts info_u8
  obtain ⟨v, hu, hown, hnb⟩ := h
  have C0 := block_cell hu 0
  simp at C0
  have hub : ub < w.heap.size := (Array.getElem?_eq_some_iff.1 hu).1
  obtain ⟨ax, cx, rfl, _, _⟩ := hI.slice
  obtain ⟨av, cv, rfl, _, _⟩ := (Ow.of_row hown).slice
  go_enter Tryd.func27, Tryd.ntmps27
  go_wp2_with (at_builtin; refine wpList_app3 _ rfl (.tmp 8) (.tmp 9) 38 rfl (ub + 1) 5 i0 Tryd.underlying38 hi hz0 hz1 hz2 _ ys rfl hown n₀ _ zs rfl hI hl hub ?_; intro v1 w1 hown1 hg1 hv1; have hu1 := (hg1.block ub hub (fun e => by have := (hown.lt ub e.symm).1; omega)).trans hu; have C1 := block_cell hu1 0; have F1 := block_frozen hu1 0; simp at C1; obtain ⟨a1, c1, rfl, _, _⟩ := (Ow.of_row hown1).slice)
  have hu2 : (w1.setCell ⟨ub, 0, none⟩ (.slice a1 (ys ++ zs).length c1)).heap[ub]? = some (.cells (.slice a1 (ys ++ zs).length c1 :: tl).toArray t (0, 0)) := by
    have := heap_set1 hu1 0 (.slice a1 (ys ++ zs).length c1)
    simpa using this
  have hvN : ∀ b, (Value.slice a1 (ys ++ zs).length c1).ownBlock = some b → ¬ N b := by
    intro b hb hn
    rcases hv1 b hb with h | h
    · exact hnb b h hn
    · have := (hN b hn).1; omega
  have hb1 : But (fun b => ub ≤ b ∧ ¬ N b) w (w1.setCell ⟨ub, 0, none⟩ (.slice a1 (ys ++ zs).length c1)) := by
    have h0 : But (fun b => ub ≤ b ∧ ¬ N b) w w1 := ⟨hg1.os, hg1.tape, hg1.output, hg1.size, fun k hk hE => hg1.block k hk (fun e => hE ⟨by have := (hown.lt k e.symm).1; omega, hnb k e.symm⟩)⟩
    exact h0.setCell (p := ⟨ub, 0, none⟩) ⟨Nat.le_refl _, fun hn => (hN ub hn).2 rfl⟩ _
  have hown2 : (w1.setCell ⟨ub, 0, none⟩ (.slice a1 (ys ++ zs).length c1)).ownsRow (ub + 1) 5 1 (.slice a1 (ys ++ zs).length c1) (ys ++ zs).length ((ys ++ zs).map (Value.int .u8)) := by
    obtain ⟨q1, q2⟩ := hown1
    refine ⟨q1, q2.imp id ?_⟩
    rintro ⟨g, cap, cur, e, hg, hh, r⟩
    exact ⟨g, cap, cur, e, hg, (Below.heap_setCell w1 ⟨ub, 0, none⟩ _ g (by simp; omega)).trans hh, r⟩
  go_end0
  rw [← List.length_append]
  exact ⟨rfl, ⟨_, hu2, hown2, hvN⟩, hb1⟩
end Go.Proofs.YtomdccljoaieeaaDoor
