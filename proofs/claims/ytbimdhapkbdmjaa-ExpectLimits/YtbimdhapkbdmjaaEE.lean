/- Package expect: a book's calls, but Add. -/
import Derived.Test.YtbimdhapkbdmjaaED
namespace Go.Proofs.Ytbimdhapkbdmjaa
open Go.RowKit Go.Shelf
set_option maxRecDepth 100000
set_option linter.unusedVariables false
set_option linter.unusedSimpArgs false

theorem BL.mono' {t : TypeId} {base base' : Nat} {W : World} {b : Nat} {v : Value} {l : List Ex} (h : W.ownsRow base 26 9 v l.length (exs l)) (hb : base' ≤ base) : W.ownsRow base' 26 9 v l.length (exs l) := by
  obtain ⟨h1, h2 | ⟨g, cap, cur, hv, hg, r⟩⟩ := h
  · exact ⟨h1, .inl h2⟩
  · exact ⟨h1, .inr ⟨g, cap, cur, hv, by omega, r⟩⟩
theorem of12_any (m : Int) (w : World) : Calls Try.prog 38 #[.int .i64 m] w fun e w' => e = .returned (.func (.func 47) #[] #[.pointer (some ⟨w.heap.size, 0, none⟩)]) ∧ w' = w.alloc (.cells #[.int .i64 m] 3) := by
  go_enter Try.func38, Try.ntmps38
  go_wp2_with fail
  go_ret
  exact ⟨rfl, rfl⟩
theorem alike12_any (x : Ex) (w : World) : Calls Try.prog 29 #[.agg (exc x).toArray] w fun e w' => e = .returned (.func (.func 45) #[] #[.pointer (some ⟨w.heap.size, 0, none⟩)]) ∧ w' = w.alloc (.cells (exc x).toArray 26) := by
  unfold exc
  go_enter Try.func29, Try.ntmps29
  go_wp2_with fail
  go_ret
  exact ⟨rfl, rfl⟩
theorem new12_any (w : World) : Calls Try.prog 12 #[] w fun e w' => e = .returned (.pointer (some ⟨w.heap.size, 0, none⟩)) ∧ Later w w' ∧ BL 54 w.heap.size w' w.heap.size (.slice none 0 0) [] := by
  have la : Later w (w.alloc (.cells #[.slice none 0 0] 54)) := (Below.refl _ _).alloc (Nat.le_refl _) _
  have hn := heap_alloc_new w (.cells #[.slice none 0 0] 54)
  go_enter Try.func12, Try.ntmps12
  go_wp2_with fail
  go_ret
  exact ⟨rfl, la, Nat.le_refl _, hn, rfl, .inl ⟨rfl, rfl⟩⟩

/-- How those that are wanted are taken out. -/
def TkO (t : TypeId) (base : Nat) (w w' : World) (b : Nat) (l1 l2 : List Ex) (u : Value) : Prop := ∃ v', BL t base w' b v' l2 ∧ w'.ownsRow w.heap.size 26 9 u l1.length (exs l1) ∧ But (fun g => g = b) w w' ∧ ∀ g, v'.ownBlock = some g → w.heap.size ≤ g
theorem TkO.blq {t : TypeId} {base : Nat} {w w' : World} {b : Nat} {l1 l2 : List Ex} {u : Value} (h : TkO t base w w' b l1 l2 u) (v : Value) : BLq t base w w' b v l2 := by
  obtain ⟨v', h1, h2, h3, h4⟩ := h
  exact ⟨v', h1, ⟨h3.os, h3.tape, h3.output, h3.size, fun k hk he => h3.block k hk (fun e => he (.inl e))⟩, .inr h4⟩

set_option maxHeartbeats 4000000 in
theorem takeOut_any (base b cf : Nat) (lb : Array Value) (v : Value) (l : List Ex) (q : Ex → Bool) (w : World) (hT : BL 54 base w b v l) (hbs : base ≤ w.heap.size) (hl : l.length ≤ 1000)
    (eg : ∀ args w, (callFunc cf args).run Try.prog w = .ok (.enter cf args) w)
    (hcl : ∀ x ∈ l, ∀ W, Later w W → Calls Try.prog cf (#[.agg (exc x).toArray] ++ lb) W fun e W' => e = .returned (.bool (q x)) ∧ Later W W') :
    Calls Try.prog 36 #[.pointer (some ⟨b, 0, none⟩), .func (.func cf) #[] lb] w fun e w' => ∃ u, e = .returned u ∧ TkO 54 base w w' b (l.filter q) (l.filter (fun x => !q x)) u := by
  have HSP := hide (split12_any w.heap.size cf lb v l q w (ownE_rd hT.2.2) (Nat.le_refl _) hl eg hcl)
  have k0 := block_cell hT.2.1
  obtain ⟨av, cv, rfl, _, _⟩ := (ownE_rd hT.2.2).slice
  clear eg hcl
  go_enter Try.func36, Try.ntmps36
  go_wp2_with fail
  refine HSP.out.mono ?_
  rintro e w1 ⟨l1, u1, u2, rfl, hTw⟩
  have h1 := later_keep l1 hT.2.1
  have hbl := hT.blt
  clear k0 HSP
  have k1 := block_cell h1
  have f1 := block_frozen h1
  obtain ⟨s1, c1, rfl⟩ := ownE_slice hTw.1
  obtain ⟨s2, c2, rfl⟩ := ownE_slice hTw.2.1
  have HTW := hide hTw
  clear hTw
  go_wp2_with fail
  go_ret
  have hbt : But (fun g => g = b) w1 (w1.setCell ⟨b, 0, none⟩ (.slice s2 (l.filter (fun x => !q x)).length c2)) := (But.refl (fun g => g = b) _).setCell (p := ⟨b, 0, none⟩) rfl _
  have hsz : w.heap.size ≤ w1.heap.size := l1.size
  refine ⟨_, rfl, .slice s2 (l.filter (fun x => !q x)).length c2, ⟨hT.1, by simpa using heap_set1 h1 0 (.slice s2 (l.filter (fun x => !q x)).length c2), ?_⟩, ?_, (But.of l1).trans hbt, fun g hg => (ownE_lt HTW.out.2.1 hg).1⟩
  · exact BL.mono' (t := 0) (b := 0) (ownE_but HTW.out.2.1 hbt (fun g hg e => by have := (ownE_lt HTW.out.2.1 hg).1; omega)) hbs
  · exact ownE_but HTW.out.1 hbt (fun g hg e => by have := (ownE_lt HTW.out.1 hg).1; omega)

set_option maxHeartbeats 2000000 in
theorem gone12_any (base b : Nat) (v : Value) (l : List Ex) (m : Int) (w : World) (hT : BL 54 base w b v l) (hbs : base ≤ w.heap.size) (hl : l.length ≤ 1000) :
    Calls Try.prog 19 #[.pointer (some ⟨b, 0, none⟩), .int .i64 m] w fun e w' => ∃ u, e = .returned u ∧ TkO 54 base w w' b (l.filter (fun x => decide (x.ms = m))) (l.filter (fun x => !decide (x.ms = m))) u := by
  go_enter Try.func19, Try.ntmps19
  go_wp2_with fail
  refine (of12_any m w).mono ?_
  rintro e w1 ⟨rfl, hw1⟩
  have l1 : Later w w1 := by rw [hw1]; exact (Below.refl _ _).alloc (Nat.le_refl _) _
  have c1 : w1.heap[w.heap.size]? = some (.cells #[.int .i64 m] 3) := by rw [hw1]; exact heap_alloc_new w _
  clear hw1
  have HTO := hide (takeOut_any base b 47 #[.pointer (some ⟨w.heap.size, 0, none⟩)] v l (fun x => decide (x.ms = m)) w1 (hT.later l1) (Nat.le_trans hbs l1.size) hl (enters_of Try.func47 (by kernel_rfl) rfl) (fun x _ W hW => of1_any x m w.heap.size W ((block_cell (later_keep hW c1) 0).trans rfl)))
  go_wp2_with fail
  refine HTO.out.mono ?_
  rintro e w2 ⟨u, rfl, v', h1, h2, h3, h4⟩
  have hs : w.heap.size ≤ w1.heap.size := l1.size
  obtain ⟨s2, c2, rfl⟩ := ownE_slice h2
  have H2 := hide h2
  clear h2
  go_wp2_with fail
  go_ret
  exact ⟨_, rfl, v', h1, BL.mono' (t := 0) (b := 0) H2.out hs, (But.of l1).trans h3, fun g hg => Nat.le_trans hs (h4 g hg)⟩

set_option maxHeartbeats 2000000 in
theorem due12_any (base b : Nat) (v : Value) (l : List Ex) (m : Int) (w : World) (hT : BL 54 base w b v l) (hbs : base ≤ w.heap.size) (hl : l.length ≤ 1000) :
    Calls Try.prog 20 #[.pointer (some ⟨b, 0, none⟩), .int .i64 m] w fun e w' => ∃ u, e = .returned u ∧ TkO 54 base w w' b (l.filter (fun x => decide (x.dl ≤ m))) (l.filter (fun x => !decide (x.dl ≤ m))) u := by
  have l1 : Later w (w.alloc (.cells #[.int .i64 m] 3)) := (Below.refl _ _).alloc (Nat.le_refl _) _
  have c1 := heap_alloc_new w (.cells #[.int .i64 m] 3)
  go_enter Try.func20, Try.ntmps20
  go_wp2_with fail
  generalize w.alloc _ = w1 at *
  have HTO := hide (takeOut_any base b 39 #[.pointer (some ⟨w.heap.size, 0, none⟩)] v l (fun x => decide (x.dl ≤ m)) w1 (hT.later l1) (Nat.le_trans hbs l1.size) hl (enters_of Try.func39 (by kernel_rfl) rfl) (fun x _ W hW => due1_any x m w.heap.size W ((block_cell (later_keep hW c1) 0).trans rfl)))
  refine HTO.out.mono ?_
  rintro e w2 ⟨u, rfl, v', h1, h2, h3, h4⟩
  have hs : w.heap.size ≤ w1.heap.size := l1.size
  obtain ⟨s2, c2, rfl⟩ := ownE_slice h2
  have H2 := hide h2
  clear h2
  go_wp2_with fail
  go_ret
  exact ⟨_, rfl, v', h1, BL.mono' (t := 0) (b := 0) H2.out hs, (But.of l1).trans h3, fun g hg => Nat.le_trans hs (h4 g hg)⟩

set_option maxHeartbeats 2000000 in
theorem list12_any (base b : Nat) (v : Value) (l : List Ex) (w : World) (hT : BL 54 base w b v l) (hl : l.length ≤ 1000) :
    Calls Try.prog 16 #[.pointer (some ⟨b, 0, none⟩)] w fun e w' => Later w w' ∧ ∃ u, e = .returned u ∧ w'.ownsRow w.heap.size 26 9 u l.length (exs l) := by
  have k0 := block_cell hT.2.1
  obtain ⟨av, cv, rfl, _, _⟩ := (ownE_rd hT.2.2).slice
  go_enter Try.func16, Try.ntmps16
  go_wp2_with fail
  refine (clone12_any base _ l w hT.2.2 (by omega)).mono ?_
  rintro e w1 ⟨l1, u, rfl, hu⟩
  obtain ⟨s2, c2, rfl⟩ := ownE_slice hu
  have HU := hide hu
  clear hu k0
  go_wp2_with fail
  go_ret
  exact ⟨l1, _, rfl, HU.out⟩

set_option maxHeartbeats 2000000 in
theorem fork12_any (base b : Nat) (v : Value) (l : List Ex) (w : World) (hT : BL 54 base w b v l) (hl : l.length ≤ 1000) :
    Calls Try.prog 22 #[.pointer (some ⟨b, 0, none⟩)] w fun e w' => Later w w' ∧ ∃ b' v', e = .returned (.pointer (some ⟨b', 0, none⟩)) ∧ BL 54 w.heap.size w' b' v' l := by
  have k0 := block_cell hT.2.1
  obtain ⟨av, cv, rfl, _, _⟩ := (ownE_rd hT.2.2).slice
  go_enter Try.func22, Try.ntmps22
  go_wp2_with fail
  refine (clone12_any base _ l w hT.2.2 (by omega)).mono ?_
  rintro e w1 ⟨l1, v', rfl, hv⟩
  obtain ⟨au, cu, rfl, _, _⟩ := (ownE_rd hv).slice
  have la : Later w1 (w1.alloc (.cells #[.slice au l.length cu] 54)) := (Below.refl _ _).alloc (Nat.le_refl _) _
  have hn := heap_alloc_new w1 (.cells #[.slice au l.length cu] 54)
  have HR := hide (ownE_later hv la)
  clear hv k0
  go_wp2_with fail
  go_ret
  exact ⟨l1.trans la, _, _, rfl, l1.size, hn, HR.out⟩

set_option maxHeartbeats 4000000 in
theorem owned12_any (base b : Nat) (v : Value) (l : List Ex) (m : Int) (w : World) (hT : BL 54 base w b v l) (hl : l.length ≤ 1000) :
    Calls Try.prog 30 #[.pointer (some ⟨b, 0, none⟩), .int .i64 m] w fun e w' => e = .returned (.int .i64 ((l.filter (fun x => decide (x.ms = m))).length : Int)) ∧ Later w w' := by
  obtain ⟨av, cv, rfl, _, _⟩ := (ownE_rd hT.2.2).slice
  go_enter Try.func30, Try.ntmps30
  go_upto_region 1 with fail
  refine anyT_begin (R := But (fun _ => False)) 12 rfl (by kernel_rfl) ?_
  have ld : Later w w.drew := Later.drew w
  have hTd := hT.later ld
  generalize w.drew = Wd at *
  have ha : ∀ v1, But (fun _ => False) Wd v1 → ∀ j, v1.cell? ⟨b, j, none⟩ = #[Value.slice av l.length cv][j]? := fun v1 hv => block_cell ((hv.block b (Array.getElem?_eq_some_iff.1 hTd.2.1).1 (fun h => h)).trans hTd.2.1)
  refine anyT_val (But.pre _) 0 rfl (by kernel_rfl) (by kernel_rfl) (by kernel_rfl) (fun _ _ _ _ h => h) rfl ?_; apply Exists.intro; refine ⟨fun v1 hv1 => ?_, ?_⟩; (· (go_simp; rfl)); simp only [Act.put, List.setIfInBounds_toArray, List.set_cons_zero, List.set_cons_succ]
  refine anyT_val (But.pre _) 1 rfl (by kernel_rfl) (by kernel_rfl) (by kernel_rfl) (fun _ _ _ _ h => h) rfl ?_; apply Exists.intro; refine ⟨fun v1 hv1 => ?_, ?_⟩; (· (go_simp; rfl)); simp only [Act.put, List.setIfInBounds_toArray, List.set_cons_zero, List.set_cons_succ]
  refine anyT_val (But.pre _) 2 rfl (by kernel_rfl) (by kernel_rfl) (by kernel_rfl) (fun _ _ _ _ h => h) rfl ?_; apply Exists.intro; refine ⟨fun v1 hv1 => ?_, ?_⟩; (· (go_simp; rfl)); simp only [Act.put, List.setIfInBounds_toArray, List.set_cons_zero, List.set_cons_succ]
  refine anyT_val (But.pre _) 3 rfl (by kernel_rfl) (by kernel_rfl) (by kernel_rfl) (fun _ _ _ _ h => h) rfl ?_; apply Exists.intro; refine ⟨fun v1 hv1 => ?_, ?_⟩; (· (go_simp; rfl)); simp only [Act.put, List.setIfInBounds_toArray, List.set_cons_zero, List.set_cons_succ]
  refine anyT_val (But.pre _) 4 rfl (by kernel_rfl) (by kernel_rfl) (by kernel_rfl) (fun _ _ _ _ h => h) rfl ?_; apply Exists.intro; refine ⟨fun v1 hv1 => ?_, ?_⟩; (· (go_simp; rfl)); simp only [Act.put, List.setIfInBounds_toArray, List.set_cons_zero, List.set_cons_succ]
  clear ha
  refine anyT_one 5 rfl (by kernel_rfl) rfl ?_
  refine wp_enter 38 #[.int .i64 m] (by go_simp) ?_
  refine (of12_any m Wd).mono ?_
  rintro e w1 ⟨rfl, hw1⟩
  have l1 : Later Wd w1 := by rw [hw1]; exact (Below.refl _ _).alloc (Nat.le_refl _) _
  have c1 : w1.heap[Wd.heap.size]? = some (.cells #[.int .i64 m] 3) := by rw [hw1]; exact heap_alloc_new Wd _
  clear hw1
  have hT1 := hTd.later l1
  refine ⟨But.of l1, ?_⟩
  simp only [Act.put, List.setIfInBounds_toArray, List.set_cons_zero, List.set_cons_succ]
  generalize Wd.heap.size = mb at *
  refine anyT_one 6 rfl (by kernel_rfl) rfl ?_
  refine wp_enter 46 #[.slice av l.length cv, .func (.func 47) #[] #[.pointer (some ⟨mb, 0, none⟩)]] (by go_simp) ?_
  refine (split12_any w1.heap.size 47 #[.pointer (some ⟨mb, 0, none⟩)] _ l (fun x => decide (x.ms = m)) w1 (ownE_rd hT1.2.2) (Nat.le_refl _) hl (enters_of Try.func47 (by kernel_rfl) rfl) (fun x _ W hW => of1_any x m mb W ((block_cell (later_keep hW c1) 0).trans rfl))).mono ?_
  rintro e w2 ⟨l2, u1, u2, rfl, hTw⟩
  have L2 := (ld.trans l1).trans l2
  obtain ⟨s1, k1, rfl⟩ := ownE_slice hTw.1
  obtain ⟨s2, k2, rfl⟩ := ownE_slice hTw.2.1
  refine ⟨But.of l2, ?_⟩
  simp only [Act.put, List.setIfInBounds_toArray, List.set_cons_zero, List.set_cons_succ]
  clear hTw hT1 c1 l1 l2
  refine anyT_val (But.pre _) 7 rfl (by kernel_rfl) (by kernel_rfl) (by kernel_rfl) (fun _ _ _ _ h => h) rfl ?_; apply Exists.intro; refine ⟨fun v1 hv1 => ?_, ?_⟩; (· (go_simp; rfl)); simp only [Act.put, List.setIfInBounds_toArray, List.set_cons_zero, List.set_cons_succ]
  refine anyT_val (But.pre _) 8 rfl (by kernel_rfl) (by kernel_rfl) (by kernel_rfl) (fun _ _ _ _ h => h) rfl ?_; apply Exists.intro; refine ⟨fun v1 hv1 => ?_, ?_⟩; (· (go_simp; rfl)); simp only [Act.put, List.setIfInBounds_toArray, List.set_cons_zero, List.set_cons_succ]
  refine anyT_val (But.pre _) 9 rfl (by kernel_rfl) (by kernel_rfl) (by kernel_rfl) (fun _ _ _ _ h => h) rfl ?_; apply Exists.intro; refine ⟨fun v1 hv1 => ?_, ?_⟩; (· (go_simp; rfl)); simp only [Act.put, List.setIfInBounds_toArray, List.set_cons_zero, List.set_cons_succ]
  refine anyT_val (But.pre _) 10 rfl (by kernel_rfl) (by kernel_rfl) (by kernel_rfl) (fun _ _ _ _ h => h) rfl ?_; apply Exists.intro; refine ⟨fun v1 hv1 => ?_, ?_⟩; (· (go_simp; rfl)); simp only [Act.put, List.setIfInBounds_toArray, List.set_cons_zero, List.set_cons_succ]
  refine anyT_val (But.pre _) 11 rfl (by kernel_rfl) (by kernel_rfl) (by kernel_rfl) (fun _ _ _ _ h => h) rfl ?_; apply Exists.intro; refine ⟨fun v1 hv1 => ?_, ?_⟩; (· (go_simp; rfl)); simp only [Act.put, List.setIfInBounds_toArray, List.set_cons_zero, List.set_cons_succ]
  refine anyT_done (by kernel_rfl) ?_
  go_wp2_with fail
  go_ret
  exact ⟨rfl, L2⟩
end Go.Proofs.Ytbimdhapkbdmjaa
