/- Package sip: a message with lists of its own; Rewrite. -/
import Derived.Test.YtifdocjagnhncaaDoorIO
import Derived.Test.YtifdocjagnhncaaDoorCA
import Derived.Deep.Cut
import Derived.Deep.AppendLies
import Derived.Deep.Upon
namespace Go.Proofs.YtifdocjagnhncaaDoor
open Go.RowKit Go.Shelf
set_option maxRecDepth 100000
set_option linter.unusedVariables false
set_option linter.unusedSimpArgs false

theorem addr_addS (b off k : Nat) : (⟨b, off, none⟩ : Addr).add k = ⟨b, off + k, none⟩ := by unfold Addr.add; split <;> simp_all
theorem hrs_one (l : List Hr) : ∀ u ∈ hrs l, u.oneCell' = true := fun u hu => by
  obtain ⟨r, _, hr⟩ := List.mem_flatMap.1 hu
  simp only [hrc, List.mem_cons, List.not_mem_nil, or_false] at hr
  rcases hr with rfl | rfl <;> rfl

/-- All of a list appended onto one's own. -/
theorem appH (w : World) (ty : TypeId) (base n₀ : Nat) (v : Value) (xs : List Hr) (sv : Value) (ys : List Hr) (hown : w.ownsRow base 63 2 v xs.length (hrs xs)) (hI : RdM n₀ w sv ys) (hbase : base ≤ w.heap.size) (hs : xs.length + ys.length ≤ 10000) :
    ∃ v' w', (Builtin.append_ #[23, 23] ty #[v, sv]).run Tryd.prog w = .ok v' w' ∧ w'.ownsRow base 63 2 v' (xs ++ ys).length (hrs (xs ++ ys)) ∧ w.grownBy w' v.ownBlock ∧ (v'.ownBlock = v.ownBlock ∨ v'.ownBlock = some w.heap.size) := by
  obtain ⟨i0, hi0, hz0, hz1, hz2⟩ := info_partsS info_hdr
  rcases hI with ⟨a, cap, rfl, rfl, hcm, ha⟩ | ⟨b, off, cap, rfl, hne, hl, hm, hb, hc⟩
  · obtain ⟨av, cv, rfl, hv1, hv2⟩ := (ownM_rd hown).slice
    refine ⟨_, w, run_append_nothing w _ _ ty _ i0 Tryd.underlying23 hi0 av xs.length cv hv1 (.slice a 0 cap) ?_, by rw [List.append_nil]; exact hown, ⟨rfl, rfl, rfl, Nat.le_refl _, fun _ _ _ => rfl⟩, .inl rfl⟩
    refine ⟨.inl ⟨_, Tryd.underlying23⟩, fun w' => ?_, ?_, ?_, by simp, by simp⟩ <;> cases a <;> simp [Builtin.lenOf, Builtin.firstCells, go_sem]
  · have hp : 0 < ys.length := List.length_pos_iff.2 hne
    obtain ⟨g, cap', w', hr, h2, h3, h4, h5⟩ := run_append_lies (P := Tryd.prog) w 23 ty base 63 i0 _ 2 32 Tryd.underlying23 hi0 hz0 hz1 hz2 rfl (by decide) v xs.length (hrs xs) hown ⟨b, off, none⟩ ys.length cap (hrs ys) (hrs_length ys) (fun j u hj => by
      have hlt := (List.getElem?_eq_some_iff.1 hj).1
      rw [hrs_length] at hlt
      rw [addr_addS]
      have h1 := hc (j / 2) (by omega) (j % 2) (Nat.mod_lt _ (by omega))
      rw [← hrs_at ys (j / 2) (j % 2) (by omega) (Nat.mod_lt _ (by omega)), show j / 2 * 2 + j % 2 = j from by omega, hj] at h1
      rw [← h1]
      congr 2
      omega) (hrs_one ys) hp (by unfold maxLen; omega) (by omega) hbase _ rfl
    refine ⟨_, w', hr, by rw [List.length_append, hrs_append]; exact h2, h3, ?_⟩
    rcases h4 with h4 | h4
    · exact .inl (by rw [h4]; rfl)
    · exact .inr (by rw [h4]; rfl)

theorem wpList_appw {P : Program} {ops : Array Oper} {rest : List Oper} {o : Oper} {a : Act} {Q : Exit → Act → World → Prop} {w : World} (hg : o.guard = none) (s x : Operand) (t : TypeId) (hop : o.op = Op.call { callee := Callee.builtin Builtin.append, args := #[s, x], argTypes := #[t, t] })
    (v sx : Value) (hs : a.eval s = v) (hx : a.eval x = sx) (v' : Value) (w' : World) (hrun : (Builtin.append_ #[t, t] o.type #[v, sx]).run P w = .ok v' w') (hk : wpList P ops Q rest (a.put o.dst v') w') : wpList P ops Q (o :: rest) a w :=
  wpList_plain hg fun K hK => wp_app s x t hop v sx hs hx v' w' hrun (hK _ _ hk)
theorem ownM_made (w : World) : (w.alloc (.cells #[] 63)).ownsRow w.heap.size 63 2 (.slice (some ⟨w.heap.size, 0, none⟩) 0 0) ([] : List Hr).length (hrs []) :=
  ⟨rfl, .inr ⟨w.heap.size, 0, #[], rfl, Nat.le_refl _, heap_alloc_new w _, Nat.le_refl _, by unfold maxLen; omega, rfl, rfl⟩⟩
/-- A copy of a list in memory of its own. -/
theorem copyH (w : World) (ty : TypeId) (n₀ : Nat) (sv : Value) (ys : List Hr) (hI : RdM n₀ w sv ys) (hn : n₀ ≤ w.heap.size) (hs : ys.length ≤ 10000) :
    ∃ v' w', (Builtin.append_ #[23, 23] ty #[.slice (some ⟨w.heap.size, 0, none⟩) 0 0, sv]).run Tryd.prog (w.alloc (.cells #[] 63)) = .ok v' w' ∧ w'.ownsRow w.heap.size 63 2 v' ys.length (hrs ys) ∧ Later w w' := by
  have la : Later w (w.alloc (.cells #[] 63)) := (Below.refl _ _).alloc (Nat.le_refl _) _
  obtain ⟨v', w', h1, h2, h3, h4⟩ := appH (w.alloc (.cells #[] 63)) ty w.heap.size n₀ _ [] sv ys (ownM_made w) (hI.below (la.mono hn)) la.size (by simpa using hs)
  refine ⟨v', w', h1, by simpa using h2, ?_⟩
  exact Below.trans la ⟨h3.os, h3.tape, h3.output, h3.size, fun k hk => h3.block k (by simp; omega) (fun e => by simp [Value.ownBlock] at e; omega)⟩


set_option maxHeartbeats 2000000 in
theorem cloneH_any (v : Value) (l : List Hr) (w : World) (hI : RdM w.heap.size w v l) (hl : l.length ≤ 5000) :
    Calls Tryd.prog 57 #[v] w fun e w' => Later w w' ∧ ∃ v', e = .returned v' ∧ w'.ownsRow w.heap.size 63 2 v' l.length (hrs l) := by
  obtain ⟨u, W1, hrun, hrow, hlat⟩ := copyH w 23 w.heap.size v l hI (Nat.le_refl _) (by omega)
  obtain ⟨av, cv, rfl, _, _⟩ := hI.slice
  obtain ⟨au, cu, rfl⟩ := owns_form hrow
  have HRUN := hide hrun
  have HROW := hide hrow
  have HI := hide hI
  clear hrun hrow hI
  go_enter Tryd.func57, Tryd.ntmps57
  cases av with
  | none =>
    go_wp2_with fail
    rw [Go.Lib.run_eql_slice_nil _ _ _ _ _ _ _ _ Tryd.underlying23]
    go_wp2_with fail
    go_ret
    obtain rfl : l = [] := by
      rcases HI.out with ⟨_, _, _, e2, _⟩ | ⟨g2, off, cap2, e, _⟩
      · exact e2
      · cases e
    exact ⟨Later.refl _, _, rfl, rfl, .inl ⟨rfl, rfl⟩⟩
  | some a =>
    go_wp2_with fail
    rw [Go.Lib.run_eql_slice_nil _ _ _ _ _ _ _ _ Tryd.underlying23]
    go_wp2_with (at_builtin; refine wpList_appw rfl (.tmp 5) (.tmp 6) 23 rfl _ _ rfl rfl _ W1 HRUN.out ?_)
    go_ret
    exact ⟨hlat, _, rfl, HROW.out⟩

set_option maxRecDepth 100000 in
set_option maxHeartbeats 4000000 in
theorem own_any (st : ByteArray) (sv sb : Value) (hs : List Hr) (zb : List Int) (w : World) (hH : RdM w.heap.size w sv hs) (hB : Rd w.heap.size w sb zb) (hl : hs.length ≤ 5000) (hz : zb.length ≤ 140737488355328) :
    Calls Tryd.prog 43 #[.agg #[.string st, sv, sb]] w fun e w' => Later w w' ∧ ∃ vh vb, e = .returned (.agg #[.string st, vh, vb]) ∧ w'.ownsRow w.heap.size 63 2 vh hs.length (hrs hs) ∧ Ow w.heap.size w' vb zb := by
  obtain ⟨sa, scp, rfl, hsc1, hsc2⟩ := hH.slice
  obtain ⟨ba, bcp, rfl, hbc1, hbc2⟩ := hB.slice
  have hb4 : Later w ((w.alloc (.cells #[.string st, .slice sa hs.length scp, .slice ba zb.length bcp] 25)).alloc (.cells #[.string ⟨#[]⟩, .slice none 0 0, .slice none 0 0] 25)) := ((Below.refl _ _).alloc (Nat.le_refl _) _).alloc (by simp) _
  have C0 := hide (show ((w.alloc (.cells #[.string st, .slice sa hs.length scp, .slice ba zb.length bcp] 25)).alloc (.cells #[.string ⟨#[]⟩, .slice none 0 0, .slice none 0 0] 25)).heap[w.heap.size]? = some (.cells #[.string st, .slice sa hs.length scp, .slice ba zb.length bcp] 25 (0, 0)) from (Below.heap_alloc _ _ _ (by simp)).trans (heap_alloc_new w _))
  have C1 : Hid (((w.alloc (.cells #[.string st, .slice sa hs.length scp, .slice ba zb.length bcp] 25)).alloc (.cells #[.string ⟨#[]⟩, .slice none 0 0, .slice none 0 0] 25)).heap[w.heap.size + 1]? = some (.cells #[.string ⟨#[]⟩, .slice none 0 0, .slice none 0 0] 25 (0, 0))) := by
    have := heap_alloc_new (w.alloc (.cells #[.string st, .slice sa hs.length scp, .slice ba zb.length bcp] 25)) (.cells #[.string ⟨#[]⟩, .slice none 0 0, .slice none 0 0] 25)
    rw [World.size_alloc] at this
    exact this
  go_enter Tryd.func43, Tryd.ntmps43
  go_upto_region 1 with fail
  generalize (w.alloc (.cells #[.string st, .slice sa hs.length scp, .slice ba zb.length bcp] 25)).alloc (.cells #[.string ⟨#[]⟩, .slice none 0 0, .slice none 0 0] 25) = w4 at *
  generalize hgc : w.heap.size = gc at *
  refine wp_calmS ?_
  refine anyU_begin (R1 := Later) (R2 := fun _ _ => True) (D := [9]) 10 rfl (by kernel_rfl) ?_
  have ld : Later w4 w4.drew := Later.drew w4
  generalize w4.drew = Wd at *
  have LWd : Later w Wd := Later.trans hb4 ld
  have qM : ∀ v1, Later Wd v1 → ∀ j, v1.cell? ⟨gc, j, none⟩ = #[Value.string st, .slice sa hs.length scp, .slice ba zb.length bcp][j]? := fun v1 hv => block_cell (later_keep (ld.trans hv) C0.out)
  refine anyU_val Later.pre 0 [1, 8, 9] rfl (by rfl) (by rfl) (by kernel_rfl) (by kernel_rfl) (by kernel_rfl) (by kernel_rfl) (by kernel_rfl) (fun _ _ _ _ h => by cases h.1) (by rfl) ?_; apply Exists.intro; refine ⟨fun v1 hv1 => ?_, ?_⟩; (· (go_simp; rfl)); simp only [Act.put, List.setIfInBounds_toArray, List.set_cons_zero, List.set_cons_succ]
  refine anyU_val Later.pre 1 [8, 9] rfl (by rfl) (by rfl) (by kernel_rfl) (by kernel_rfl) (by kernel_rfl) (by kernel_rfl) (by kernel_rfl) (fun _ _ _ _ h => by cases h.1) (by rfl) ?_; apply Exists.intro; refine ⟨fun v1 hv1 => ?_, ?_⟩; (· (go_simp; rfl)); simp only [Act.put, List.setIfInBounds_toArray, List.set_cons_zero, List.set_cons_succ]
  refine anyU_val Later.pre 2 [3, 4, 7, 8, 9] rfl (by rfl) (by rfl) (by kernel_rfl) (by kernel_rfl) (by kernel_rfl) (by kernel_rfl) (by kernel_rfl) (fun _ _ _ _ h => by cases h.1) (by rfl) ?_; apply Exists.intro; refine ⟨fun v1 hv1 => ?_, ?_⟩; (· (go_simp; rfl)); simp only [Act.put, List.setIfInBounds_toArray, List.set_cons_zero, List.set_cons_succ]
  refine anyU_val Later.pre 3 [4, 7, 8, 9] rfl (by rfl) (by rfl) (by kernel_rfl) (by kernel_rfl) (by kernel_rfl) (by kernel_rfl) (by kernel_rfl) (fun _ _ _ _ h => by cases h.1) (by rfl) ?_; apply Exists.intro; refine ⟨fun v1 hv1 => ?_, ?_⟩; (· (go_simp; rfl)); simp only [Act.put, List.setIfInBounds_toArray, List.set_cons_zero, List.set_cons_succ]
  refine anyU_val Later.pre 5 [6, 7, 8, 9] rfl (by rfl) (by rfl) (by kernel_rfl) (by kernel_rfl) (by kernel_rfl) (by kernel_rfl) (by kernel_rfl) (fun _ _ _ _ h => by cases h.1) (by rfl) ?_; apply Exists.intro; refine ⟨fun v1 hv1 => ?_, ?_⟩; (· (go_simp; rfl)); simp only [Act.put, List.setIfInBounds_toArray, List.set_cons_zero, List.set_cons_succ]
  refine anyU_val Later.pre 6 [7, 8, 9] rfl (by rfl) (by rfl) (by kernel_rfl) (by kernel_rfl) (by kernel_rfl) (by kernel_rfl) (by kernel_rfl) (fun _ _ _ _ h => by cases h.1) (by rfl) ?_; apply Exists.intro; refine ⟨fun v1 hv1 => ?_, ?_⟩; (· (go_simp; rfl)); simp only [Act.put, List.setIfInBounds_toArray, List.set_cons_zero, List.set_cons_succ]
  clear qM
  refine anyU_one 4 rfl (by kernel_rfl) (by rfl) ?_
  refine wp_enter 57 #[.slice sa hs.length scp] (by go_simp) ?_
  refine (cloneH_any _ hs Wd ((show RdM w.heap.size w (.slice sa hs.length scp) hs from hgc ▸ hH).later LWd) hl).mono ?_
  rintro e W1 ⟨l1, v1, rfl, hrow1⟩
  obtain ⟨va, vc, rfl⟩ := owns_form hrow1
  refine ⟨Rj_out (by rfl) l1, ?_⟩
  simp only [Act.put, List.setIfInBounds_toArray, List.set_cons_zero, List.set_cons_succ]
  refine anyU_one 7 rfl (by kernel_rfl) (by rfl) ?_
  refine wp_enter 58 #[.slice ba zb.length bcp] (by go_simp) ?_
  refine (cloneb_any _ zb W1 hz ((show Rd w.heap.size w (.slice ba zb.length bcp) zb from hgc ▸ hB).later (LWd.trans l1))).mono ?_
  rintro e W5 ⟨xa, xc, rfl, hO, l2⟩
  have l2' : Later W1 W5 := l2
  refine ⟨Rj_out (by rfl) l2', ?_⟩
  simp only [Act.put, List.setIfInBounds_toArray, List.set_cons_zero, List.set_cons_succ]
  refine anyU_val Later.pre 8 [9] rfl (by rfl) (by rfl) (by kernel_rfl) (by kernel_rfl) (by kernel_rfl) (by kernel_rfl) (by kernel_rfl) (fun _ _ _ _ h => by cases h.1) (by rfl) ?_; apply Exists.intro; refine ⟨fun v1 hv1 => ?_, ?_⟩; (· (go_simp; rfl)); simp only [Act.put, List.setIfInBounds_toArray, List.set_cons_zero, List.set_cons_succ]
  have HA := later_keep (ld.trans (l1.trans l2')) C1.out
  have kA := block_cell HA
  have fA := block_frozen HA
  refine anyU_one 9 rfl (by kernel_rfl) (by rfl) ?_
  unfold Oper.wp
  go_simp
  refine ⟨Rj_in (by rfl) trivial, ?_⟩
  clear kA fA
  generalize hV : (((W5.setCell ⟨gc + 1, 0, none⟩ _).setCell ⟨gc + 1, 1, none⟩ _).setCell ⟨gc + 1, 2, none⟩ _) = V8
  have hV9 : V8 = putRow W5 (gc + 1) 0 [.string st, .slice va hs.length vc, .slice xa zb.length xc] := hV.symm
  have hb8 : But (fun b => b = gc + 1) W5 V8 := by rw [hV9]; exact putRow_but (E := fun b => b = gc + 1) (n := gc + 1) rfl _ _ _ _ (But.refl _ _)
  have p8 := putRow_all [.string st, .slice va hs.length vc, .slice xa zb.length xc] HA rfl
  rw [← hV9] at p8
  clear hV hV9
  refine anyU_done (by kernel_rfl) ?_
  refine ⟨rfl, ?_⟩
  have LL := LWd.trans (l1.trans l2')
  have hw8 : Later w V8 := Below.trans LL (hb8.below LL.size (fun k h e => by omega))
  have hr8 := own_but (base' := gc) (ownsS_ct hrow1 (CTs.of l2')) hb8 HA (by decide) (by rw [← hgc]; exact LWd.size)
  have hO8 : Ow gc V8 (.slice xa zb.length xc) zb := (hO.but hb8 (fun b h e => by have := (Array.getElem?_eq_some_iff.1 (later_keep (ld.trans l1) C1.out)).1; omega)).mono (by rw [← hgc]; exact (LWd.trans l1).size)
  have P8 := block_cell p8
  go_wp2_with fail
  exact bodyPost_ret (v := .agg #[.string st, .slice va hs.length vc, .slice xa zb.length xc]) (by simp [results, Tryd.results43, go_sem, P8]) rfl ⟨hw8, _, _, rfl, (by rw [hgc]; exact hr8), (by rw [hgc]; exact hO8)⟩
end Go.Proofs.YtifdocjagnhncaaDoor
