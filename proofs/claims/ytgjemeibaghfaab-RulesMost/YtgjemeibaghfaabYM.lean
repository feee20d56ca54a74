/- Package rules: Drop. -/
import Derived.Test.YtgjemeibaghfaabYK
import Derived.Lib.SliceRun
namespace Go.Proofs.Ytgjemeibaghfaab
open Go.RowKit Go.Shelf
set_option maxRecDepth 100000
set_option linter.unusedVariables false
set_option linter.unusedSimpArgs false

theorem rus_take (l : List Ru) (k : Nat) (hk : k ≤ l.length) : (rus l).take (k * 8) = rus (l.take k) := by
  conv => lhs; rw [← List.take_append_drop k l]
  rw [rus_append, List.take_left' (by rw [rus_length, List.length_take, Nat.min_eq_left hk])]
/-- The first of one's own. -/
theorem ownU_take {base : Nat} {W : World} {g n cap : Nat} {l : List Ru} (k : Nat) (hk : k ≤ l.length) (h : W.ownsRow base 30 8 (.slice (some ⟨g, 0, none⟩) n cap) l.length (rus l)) : W.ownsRow base 30 8 (.slice (some ⟨g, 0, none⟩) k cap) k (rus (l.take k)) := by
  obtain ⟨h1, ⟨e, _⟩ | ⟨g2, cap2, cur, e, hg, hh, hl, hm, hs, hc⟩⟩ := h
  · cases e
  · cases e
    refine ⟨by rw [rus_length, List.length_take, Nat.min_eq_left hk], .inr ⟨g, cap, cur, rfl, hg, hh, by omega, hm, hs, ?_⟩⟩
    rw [← rus_take l k hk, ← hc, List.take_take, Nat.min_eq_left (by omega)]
/-- Stores behind one's own change nothing of it. -/
theorem putRow_cells {g : Nat} {t : TypeId} : ∀ (vs : List Value) (j : Nat) (W : World) (cur : Array Value), W.heap[g]? = some (.cells cur t (0, 0)) → ∃ cur2, (putRow W g j vs).heap[g]? = some (.cells cur2 t (0, 0)) ∧ cur2.size = cur.size ∧ cur2.toList.take j = cur.toList.take j
  | [], j, W, cur, h => ⟨cur, h, rfl, rfl⟩
  | v :: r, j, W, cur, h => by
    have h1 := heap_set1 h j v
    obtain ⟨c2, q1, q2, q3⟩ := putRow_cells r (j + 1) _ _ h1
    refine ⟨c2, q1, by rw [q2]; simp, ?_⟩
    have := congrArg (List.take j) q3
    rw [List.take_take, List.take_take, Nat.min_eq_left (by omega)] at this
    rw [this]
    simp [List.take_set_of_le]
theorem ownU_put {base : Nat} {W : World} {g k cap : Nat} {l : List Ru} (vs : List Value) (h : W.ownsRow base 30 8 (.slice (some ⟨g, 0, none⟩) k cap) k (rus l)) : (putRow W g (k * 8) vs).ownsRow base 30 8 (.slice (some ⟨g, 0, none⟩) k cap) k (rus l) := by
  obtain ⟨h1, ⟨e, _⟩ | ⟨g2, cap2, cur, e, hg, hh, hl, hm, hs, hc⟩⟩ := h
  · cases e
  · cases e
    obtain ⟨c2, q1, q2, q3⟩ := putRow_cells vs (k * 8) W cur hh
    exact ⟨h1, .inr ⟨g, cap, c2, rfl, hg, q1, hl, hm, by rw [q2]; exact hs, by rw [q3]; exact hc⟩⟩

theorem addr_add' (b off k : Nat) : (⟨b, off, none⟩ : Addr).add k = ⟨b, off + k, none⟩ := by unfold Addr.add; split <;> simp_all
theorem erase_eq (l : List Ru) (i : Nat) : l.eraseIdx i = l.take i ++ l.drop (i + 1) := List.eraseIdx_eq_take_drop_succ l i

theorem clear1 (w : World) (ty : TypeId) (g o c : Nat) (cur : Array Value) (hh : w.heap[g]? = some (.cells cur 30 (0, 0))) (ho : o + 8 ≤ cur.size) :
    (Builtin.clear_ #[31] ty #[.slice (some ⟨g, o, none⟩) 1 c]).run Try.prog w = .ok (.tuple #[]) (putRow w g o (ruc zRu)) := by
  have hc := block_cell hh
  have hf := block_frozen hh
  have hk : ∀ j, j < 8 → ∃ u, w.cell? ⟨g, o + j, none⟩ = some u := fun j hj => ⟨cur[o + j]'(by omega), by rw [hc]; simp⟩
  obtain ⟨u0, k0⟩ := hk 0 (by omega)
  obtain ⟨u1, k1⟩ := hk 1 (by omega)
  obtain ⟨u2, k2⟩ := hk 2 (by omega)
  obtain ⟨u3, k3⟩ := hk 3 (by omega)
  obtain ⟨u4, k4⟩ := hk 4 (by omega)
  obtain ⟨u5, k5⟩ := hk 5 (by omega)
  obtain ⟨u6, k6⟩ := hk 6 (by omega)
  obtain ⟨u7, k7⟩ := hk 7 (by omega)
  clear hk hc
  unfold Builtin.clear_
  go_simp
  have e : (Builtin.zeroCells #[Value.int .i64 0, .int .u8 0, .int .u32 0, .int .i64 0, .int .u32 0, .int .u16 0, .int .u32 0, .int .u16 0] 1).toList = [Value.int .i64 0, .int .u8 0, .int .u32 0, .int .i64 0, .int .u32 0, .int .u16 0, .int .u32 0, .int .u16 0] := by kernel_rfl
  rw [e]
  simp only [Nat.add_zero] at k0
  simp only [storeCells]
  go_simp
  rfl

theorem wpList_run {P : Program} {ops : Array Oper} {rest : List Oper} {o : Oper} {a : Act} {Q : Exit → Act → World → Prop} {w : World} (hg : o.guard = none) (v : Value) (w' : World) (h : (execOp a.eval o).run P w = .ok (.value v) w')
    (hk : wpList P ops Q rest (a.put o.dst v) w') : wpList P ops Q (o :: rest) a w := wpList_plain hg fun K hK => by unfold Oper.wp; rw [h]; exact hK _ _ hk

set_option maxHeartbeats 4000000 in
theorem delete_any (base g cap : Nat) (l : List Ru) (i : Nat) (w : World) (hi : i < l.length) (hO : w.ownsRow base 30 8 (.slice (some ⟨g, 0, none⟩) l.length cap) l.length (rus l)) :
    Calls Try.prog 16 #[.slice (some ⟨g, 0, none⟩) l.length cap, .int .i64 (i : Int), .int .i64 ((i : Int) + 1)] w fun e w' => e = .returned (.slice (some ⟨g, 0, none⟩) (l.length - 1) cap) ∧ w'.ownsRow base 30 8 (.slice (some ⟨g, 0, none⟩) (l.length - 1) cap) (l.length - 1) (rus (l.eraseIdx i)) ∧ But (fun b => b = g) w w' := by
  have hO1 := ownU_take i (by omega) hO
  have hO2 := hO
  obtain ⟨h1, ⟨e, _⟩ | ⟨g2, cap2, cur, e, hg, hh, hl, hm, hs, hc⟩⟩ := hO
  · cases e
  obtain ⟨rfl, rfl⟩ : g = g2 ∧ cap = cap2 := by simpa using e
  clear e
  have hrl : (rus (l.drop (i + 1))).length = (l.length - (i + 1)) * 8 := by rw [rus_length, List.length_drop]
  have hcell : ∀ j u, (rus (l.drop (i + 1)))[j]? = some u → w.cell? ⟨g, (i + 1) * 8 + j, none⟩ = some u := fun j u hj => by
    rw [block_cell hh, ← hj]
    have hlt := (List.getElem?_eq_some_iff.1 hj).1
    have : (rus l)[(i + 1) * 8 + j]? = (rus (l.drop (i + 1)))[j]? := by
      conv => lhs; rw [← List.take_append_drop (i + 1) l]
      rw [rus_append, List.getElem?_append_right (by rw [rus_length, List.length_take, Nat.min_eq_left (by omega)]; omega), rus_length, List.length_take, Nat.min_eq_left (by omega)]
      congr 1
      omega
    rw [← this, ← hc, List.getElem?_take_of_lt (by omega)]
    simp
  have hone : ∀ u ∈ rus (l.drop (i + 1)), u.oneCell' = true := fun u hu => by
    obtain ⟨r, _, hr⟩ := List.mem_flatMap.1 hu
    simp only [ruc, List.mem_cons, List.not_mem_nil, or_false] at hr
    rcases hr with rfl | rfl | rfl | rfl | rfl | rfl | rfl | rfl <;> rfl
  have herl : rus (l.take i) ++ rus (l.drop (i + 1)) = rus (l.eraseIdx i) := by rw [erase_eq, rus_append]
  have HO1 := hide hO1
  have HH := hide hh
  have HCL := hide hcell
  have HON := hide hone
  have HER := hide herl
  have HRL := hide hrl
  have HS := hide hs
  clear hO1 hO2 hcell hone herl hrl h1 hc hh hs
  obtain ⟨i0, hi0, hz0, hz1, hz2⟩ := info_partsU info_rule
  obtain ⟨k, hk⟩ : ∃ k, l.length = k + 1 := ⟨l.length - 1, by omega⟩
  have HN := hide hk
  rw [hk] at HRL ⊢
  rw [hk] at hi hl
  clear hk
  have i1 : (i : Int) < (k : Int) + 1 := by omega
  have i2 : (i : Int) ≤ (k : Int) := by omega
  have i3 : (k : Int) + 1 ≤ cap := by omega
  have hm' : cap ≤ 9223372036854775807 := by simpa [maxLen] using hm
  have e1 : i + (k - i) = k := by omega
  have E1 := hide e1
  clear e1
  rw [show k + 1 - 1 = k from by omega]
  go_enter Try.func16, Try.ntmps16
  go_upto_region 5 with fail
  have c0 : ¬ cap = 0 := by omega
  have i4 : i ≤ cap := by omega
  have i5 : i + 1 ≤ cap := by omega
  have i6 : i + 1 ≤ k + 1 := by omega
  have i7 : (i : Int) ≤ (i : Int) + 1 := by omega
  by_cases hcap : cap = i + 1
  · subst hcap
    obtain rfl : k = i := by omega
    refine anyT_begin (R := But (fun b => b = g)) 8 rfl (by kernel_rfl) ?_
    refine anyT_val (But.pre _) 0 rfl (by kernel_rfl) (by kernel_rfl) (by kernel_rfl) (fun _ _ _ _ h => h) rfl ?_; apply Exists.intro; refine ⟨fun v1 hv1 => ?_, ?_⟩; (· (go_simp; rfl)); simp only [Act.put, List.setIfInBounds_toArray, List.set_cons_zero, List.set_cons_succ]
    refine anyT_val (But.pre _) 1 rfl (by kernel_rfl) (by kernel_rfl) (by kernel_rfl) (fun _ _ _ _ h => h) rfl ?_; apply Exists.intro; refine ⟨fun v1 hv1 => ?_, ?_⟩; (· (go_simp; rfl)); simp only [Act.put, List.setIfInBounds_toArray, List.set_cons_zero, List.set_cons_succ]
    refine anyT_val (But.pre _) 2 rfl (by kernel_rfl) (by kernel_rfl) (by kernel_rfl) (fun _ _ _ _ h => h) rfl ?_; apply Exists.intro; refine ⟨fun v1 hv1 => ?_, ?_⟩; (· (go_simp; rfl)); simp only [Act.put, List.setIfInBounds_toArray, List.set_cons_zero, List.set_cons_succ]
    refine anyT_val (But.pre _) 3 rfl (by kernel_rfl) (by kernel_rfl) (by kernel_rfl) (fun _ _ _ _ h => h) rfl ?_; apply Exists.intro; refine ⟨fun v1 hv1 => ?_, ?_⟩; (· (go_simp; rfl)); simp only [Act.put, List.setIfInBounds_toArray, List.set_cons_zero, List.set_cons_succ]
    refine anyT_val (But.pre _) 4 rfl (by kernel_rfl) (by kernel_rfl) (by kernel_rfl) (fun _ _ _ _ h => h) rfl ?_; apply Exists.intro; refine ⟨fun v1 hv1 => ?_, ?_⟩; (· (go_simp; rfl)); simp only [Act.put, List.setIfInBounds_toArray, List.set_cons_zero, List.set_cons_succ]
    refine anyT_val (But.pre _) 5 rfl (by kernel_rfl) (by kernel_rfl) (by kernel_rfl) (fun _ _ _ _ h => h) rfl ?_; apply Exists.intro; refine ⟨fun v1 hv1 => ?_, ?_⟩; (· (go_simp; rfl)); simp only [Act.put, List.setIfInBounds_toArray, List.set_cons_zero, List.set_cons_succ]
    obtain ⟨W6, hrun, hrow6, hg6⟩ := run_append_fits (P := Try.prog) w.drew base 31 31 30 i0 8 Try.underlying31 hi0 hz1 g k (k + 1) (rus (l.take k)) (ownU_later HO1.out (Later.drew w)) ⟨g, 0, none⟩ 0 0 (rus (l.drop (k + 1))) (by rw [HRL.out]; simp) (fun j u hj => by have := HRL.out; have h2 := (List.getElem?_eq_some_iff.1 hj).1; simp at this; rw [this] at h2; simp at h2) HON.out (by omega)
    rw [HER.out] at hrow6
    refine anyT_one 6 rfl (by kernel_rfl) rfl ?_
    refine wp_app (.tmp 22) (.tmp 25) 31 rfl _ _ rfl rfl _ W6 hrun ?_
    have hb6 : But (fun b => b = g) w W6 := (But.drew _ w).trans ⟨hg6.os, hg6.tape, hg6.output, hg6.size, fun k hk he => hg6.block k hk (fun e => he (by simpa using e))⟩
    refine ⟨⟨hg6.os, hg6.tape, hg6.output, hg6.size, fun k hk he => hg6.block k hk (fun e => he (by simpa using e))⟩, ?_⟩
    simp only [Act.put, List.setIfInBounds_toArray, List.set_cons_zero, List.set_cons_succ]
    refine anyT_one 7 rfl (by kernel_rfl) rfl ?_
    unfold Oper.wp
    go_simp
    refine ⟨But.refl _ _, ?_⟩
    refine anyT_done (by kernel_rfl) ?_
    have hfin := ownU_put (ruc zRu) hrow6
    have hbf : But (fun b => b = g) w (putRow W6 g (k * 8) (ruc zRu)) := putRow_but (E := fun b => b = g) rfl _ _ _ _ hb6
    have HF := hide hfin
    obtain ⟨cur6, hh6, hs6⟩ : ∃ cur, W6.heap[g]? = some (.cells cur 30 (0, 0)) ∧ cur.size = (k + 1) * 8 := by
      obtain ⟨_, ⟨e, _⟩ | ⟨g2, cap2, cur6, e, _, hh6, _, _, hs6, _⟩⟩ := hrow6
      · cases e
      · cases e
        exact ⟨cur6, hh6, hs6⟩
    have hcl := fun ty c => clear1 W6 ty g (k * 8) c cur6 hh6 (by omega)
    have HCR := hide hcl
    clear hrow6 hfin hcl
    have j1 : ¬ (k + 1) = k := by omega
    have j2 : k ≤ (k + 1) := by omega
    have j3 : k + 1 ≤ (k + 1) := by omega
    have j4 : (k : Int) ≤ (k : Int) + 1 := by omega
    go_wp2_with fail
    rw [HCR.out]
    go_wp2_with fail
    go_ret
    exact ⟨rfl, HF.out, hbf⟩
  · refine anyT_begin (R := But (fun b => b = g)) 8 rfl (by kernel_rfl) ?_
    refine anyT_val (But.pre _) 0 rfl (by kernel_rfl) (by kernel_rfl) (by kernel_rfl) (fun _ _ _ _ h => h) rfl ?_; apply Exists.intro; refine ⟨fun v1 hv1 => ?_, ?_⟩; (· (go_simp; rfl)); simp only [Act.put, List.setIfInBounds_toArray, List.set_cons_zero, List.set_cons_succ]
    refine anyT_val (But.pre _) 1 rfl (by kernel_rfl) (by kernel_rfl) (by kernel_rfl) (fun _ _ _ _ h => h) rfl ?_; apply Exists.intro; refine ⟨fun v1 hv1 => ?_, ?_⟩; (· (go_simp; rfl)); simp only [Act.put, List.setIfInBounds_toArray, List.set_cons_zero, List.set_cons_succ]
    refine anyT_val (But.pre _) 2 rfl (by kernel_rfl) (by kernel_rfl) (by kernel_rfl) (fun _ _ _ _ h => h) rfl ?_; apply Exists.intro; refine ⟨fun v1 hv1 => ?_, ?_⟩; (· (go_simp; rfl)); simp only [Act.put, List.setIfInBounds_toArray, List.set_cons_zero, List.set_cons_succ]
    refine anyT_val (But.pre _) 3 rfl (by kernel_rfl) (by kernel_rfl) (by kernel_rfl) (fun _ _ _ _ h => h) rfl ?_; apply Exists.intro; refine ⟨fun v1 hv1 => ?_, ?_⟩; (· (go_simp; rfl)); simp only [Act.put, List.setIfInBounds_toArray, List.set_cons_zero, List.set_cons_succ]
    refine anyT_val (But.pre _) 4 rfl (by kernel_rfl) (by kernel_rfl) (by kernel_rfl) (fun _ _ _ _ h => h) rfl ?_; apply Exists.intro; refine ⟨fun v1 hv1 => ?_, ?_⟩; (· (go_simp; rfl)); simp only [Act.put, List.setIfInBounds_toArray, List.set_cons_zero, List.set_cons_succ]
    refine anyT_val (But.pre _) 5 rfl (by kernel_rfl) (by kernel_rfl) (by kernel_rfl) (fun _ _ _ _ h => h) rfl ?_; apply Exists.intro; refine ⟨fun v1 hv1 => ?_, ?_⟩; (· (go_simp; rfl)); simp only [Act.put, List.setIfInBounds_toArray, List.set_cons_zero, List.set_cons_succ]
    obtain ⟨W6, hrun, hrow6, hg6⟩ := run_append_fits (P := Try.prog) w.drew base 31 31 30 i0 8 Try.underlying31 hi0 hz1 g i cap (rus (l.take i)) (ownU_later HO1.out (Later.drew w)) ⟨g, (i + 1) * 8, none⟩ (k - i) (cap - (i + 1)) (rus (l.drop (i + 1))) (by rw [HRL.out]; omega) (fun j u hj => by rw [addr_add']; exact (Later.drew w).cell (HCL.out j u hj)) HON.out (by omega)
    rw [HER.out] at hrow6
    refine anyT_one 6 rfl (by kernel_rfl) rfl ?_
    refine wp_app (.tmp 22) (.tmp 25) 31 rfl _ _ rfl rfl _ W6 hrun ?_
    have hb6 : But (fun b => b = g) w W6 := (But.drew _ w).trans ⟨hg6.os, hg6.tape, hg6.output, hg6.size, fun k hk he => hg6.block k hk (fun e => he (by simpa using e))⟩
    refine ⟨⟨hg6.os, hg6.tape, hg6.output, hg6.size, fun k hk he => hg6.block k hk (fun e => he (by simpa using e))⟩, ?_⟩
    simp only [Act.put, List.setIfInBounds_toArray, List.set_cons_zero, List.set_cons_succ]
    refine anyT_one 7 rfl (by kernel_rfl) rfl ?_
    unfold Oper.wp
    go_simp
    refine ⟨But.refl _ _, ?_⟩
    refine anyT_done (by kernel_rfl) ?_
    rw [E1.out] at hrow6 ⊢
    have hfin := ownU_put (ruc zRu) hrow6
    have hbf : But (fun b => b = g) w (putRow W6 g (k * 8) (ruc zRu)) := putRow_but (E := fun b => b = g) rfl _ _ _ _ hb6
    have HF := hide hfin
    obtain ⟨cur6, hh6, hs6⟩ : ∃ cur, W6.heap[g]? = some (.cells cur 30 (0, 0)) ∧ cur.size = cap * 8 := by
      obtain ⟨_, ⟨e, _⟩ | ⟨g2, cap2, cur6, e, _, hh6, _, _, hs6, _⟩⟩ := hrow6
      · cases e
      · cases e
        exact ⟨cur6, hh6, hs6⟩
    have hcl := fun ty c => clear1 W6 ty g (k * 8) c cur6 hh6 (by omega)
    have HCR := hide hcl
    clear hrow6 hfin hcl
    have j1 : ¬ cap = k := by omega
    have j2 : k ≤ cap := by omega
    have j3 : k + 1 ≤ cap := by omega
    have j4 : (k : Int) ≤ (k : Int) + 1 := by omega
    go_wp2_with fail
    rw [HCR.out]
    go_wp2_with fail
    go_ret
    exact ⟨rfl, HF.out, hbf⟩

/-- What dropping tells, and what the list is then. -/
def drE (l : List Ru) (i : Int) : Int := if i < 0 ∨ (l.length : Int) ≤ i then 11 else 0
def drL (l : List Ru) (i : Int) : List Ru := if drE l i = 0 then l.eraseIdx i.toNat else l
theorem drL_no {l : List Ru} {i : Int} (h : drE l i ≠ 0) : drL l i = l := by unfold drL; rw [if_neg h]
theorem drL_yes {l : List Ru} {i : Int} (h : drE l i = 0) : drL l i = l.eraseIdx i.toNat := by unfold drL; rw [if_pos h]
theorem drE_yes {l : List Ru} {i : Nat} (h : i < l.length) : drE l (i : Int) = 0 := by unfold drE; rw [if_neg (by omega)]
theorem drE_no {l : List Ru} {i : Int} (h : i < 0 ∨ (l.length : Int) ≤ i) : drE l i = 11 := by unfold drE; rw [if_pos h]
theorem okL_drop {l : List Ru} {i : Int} (h : okL l) : okL (drL l i) := by
  by_cases h0 : drE l i = 0
  · rw [drL_yes h0]
    exact ⟨Nat.le_trans (List.length_eraseIdx_le l _) h.1, fun x hx => h.2 x (List.mem_of_mem_eraseIdx hx)⟩
  · rw [drL_no h0]; exact h

set_option maxHeartbeats 4000000 in
theorem drop9_any (base b : Nat) (v : Value) (l : List Ru) (i : Int) (w : World) (hT : RL 42 base w b v l) (hl : l.length ≤ 5000) :
    Calls Try.prog 9 #[.pointer (some ⟨b, 0, none⟩), .int .i64 i] w fun e w' => e = .returned (.int .i64 (drE l i)) ∧ RLq 42 base w w' b v (drL l i) := by
  obtain ⟨av, cv, rfl, hcl, hcm⟩ := (ownU_rd hT.2.2).slice
  have k0 := block_cell hT.2.1
  go_enter Try.func9, Try.ntmps9
  by_cases h0 : i < 0
  · have hd := drE_no (l := l) (.inl h0)
    have HD := hide hd
    have HL := hide (drL_no (l := l) (i := i) (by rw [hd]; omega))
    clear hd
    go_wp2_with fail
    go_ret
    exact ⟨by rw [HD.out]; rfl, by rw [HL.out]; exact RLq.same hT (Later.refl _)⟩
  · by_cases h1 : (l.length : Int) ≤ i
    · have hd := drE_no (l := l) (.inr h1)
      have HD := hide hd
      have HL := hide (drL_no (l := l) (i := i) (by rw [hd]; omega))
      clear hd
      go_wp2_with fail
      go_ret
      exact ⟨by rw [HD.out]; rfl, by rw [HL.out]; exact RLq.same hT (Later.refl _)⟩
    · obtain ⟨j, rfl⟩ := Int.eq_ofNat_of_zero_le (show 0 ≤ i by omega)
      have hj : j < l.length := by omega
      obtain ⟨g, cap, rfl, rfl⟩ : ∃ g cap, av = some ⟨g, 0, none⟩ ∧ cv = cap := by
        obtain ⟨_, ⟨e, e2⟩ | ⟨g2, cap2, cur, e, _⟩⟩ := hT.2.2
        · omega
        · cases e
          exact ⟨g2, cv, rfl, rfl⟩
      have hd := drE_yes hj
      have HD := hide hd
      have HL := hide (drL_yes hd)
      clear hd
      have HJ := hide hj
      clear hj
      have h2 : (j : Int) + 1 ≤ 9223372036854775807 := by omega
      go_wp2_with fail
      refine (delete_any base g cv l j w HJ.out hT.2.2).mono ?_
      rintro e w1 ⟨rfl, hrow, hb1⟩
      have hgb : g ≠ b := fun e => hT.ne hT.2.1 (by decide) (by rw [← e]; rfl)
      have hb0 : w1.heap[b]? = some (.cells #[.slice (some ⟨g, 0, none⟩) l.length cv] 42 (0, 0)) := (hb1.block b hT.blt (fun e => hgb e.symm)).trans hT.2.1
      have k1 := block_cell hb0
      have f1 := block_frozen hb0
      have HRW := hide hrow
      clear hrow k0
      go_wp2_with fail
      go_ret
      refine ⟨by rw [HD.out]; rfl, ?_⟩
      rw [HL.out]
      have hbs : But (fun x => x = b ∨ Value.ownBlock (.slice (some ⟨g, 0, none⟩) l.length cv) = some x) w (w1.setCell ⟨b, 0, none⟩ (.slice (some ⟨g, 0, none⟩) (l.length - 1) cv)) := But.setCell ⟨hb1.os, hb1.tape, hb1.output, hb1.size, fun k hk he => hb1.block k hk (fun e => he (.inr (by rw [e]; rfl)))⟩ (p := ⟨b, 0, none⟩) (.inl rfl) _
      refine ⟨.slice (some ⟨g, 0, none⟩) (l.length - 1) cv, ⟨hT.1, heap_set1 hb0 0 _, ?_⟩, hbs, .inl rfl⟩
      have hr := HRW.out
      rw [Int.toNat_natCast, List.length_eraseIdx_of_lt HJ.out]
      obtain ⟨q1, ⟨e, _⟩ | ⟨g2, cap2, cur, e, q2, q3, q4⟩⟩ := hr
      · cases e
      · cases e
        exact ⟨q1, .inr ⟨g, cv, cur, rfl, q2, hset_ne q3 hgb, q4⟩⟩
end Go.Proofs.Ytgjemeibaghfaab
