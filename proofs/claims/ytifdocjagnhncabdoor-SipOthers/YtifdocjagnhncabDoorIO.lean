/- Package sip: a message, changed. -/
import Derived.Test.YtifdocjagnhncabDoorIN
import Derived.Deep.Cut
namespace Go.Proofs.YtifdocjagnhncabDoor
open Go.RowKit Go.Shelf
set_option maxRecDepth 100000
set_option linter.unusedVariables false
set_option linter.unusedSimpArgs false

/-- Headers, changed, ahead of a body of so many bytes. -/
def mgH (c : Cg) (n : Nat) (hs : List Hr) : List Hr := hs.map fun h => (h.1, vuB c n h)
theorem mgH_take (c : Cg) (n : Nat) (hs : List Hr) (k : Nat) (hk : k < hs.length) : mgH c n (hs.take (k + 1)) = mgH c n (hs.take k) ++ [(hs[k].1, vuB c n hs[k])] := by
  unfold mgH
  rw [← List.take_append_getElem hk, List.map_append]
  rfl
theorem info_hdr : (Tryd.prog.info? 34).map (fun i => (i.zero, i.size, i.bytes)) = some (some (.agg #[.string ⟨#[]⟩, .string ⟨#[]⟩]), 2, 32) := by kernel_rfl
/-- What append to rows of headers leaves: blocks that are no such row. -/
theorem keep_row {W1 W2 : World} {base : Nat} {e : TypeId} {size : Nat} {v : Value} {n : Nat} {xs : List Value} (h : W1.ownsRow base e size v n xs) (hg : W1.grownBy W2 v.ownBlock) {i : Nat} {o : Obj} (ho : W1.heap[i]? = some o) (hh : (∀ cur f, o ≠ .cells cur e f) ∨ i < base) : W2.heap[i]? = some o :=
  (hg.block i (Array.getElem?_eq_some_iff.1 ho).1 (fun e => by
    obtain ⟨cur, h1, h2⟩ := owns_blk h i e.symm
    rw [ho] at h1
    cases h1
    rcases hh with h | h
    · exact h _ _ rfl
    · omega)).trans ho
theorem keep_own {W1 W2 : World} {base : Nat} {e : TypeId} {size : Nat} {v : Value} {n : Nat} {xs : List Value} (h : W1.ownsRow base e size v n xs) (hg : W1.grownBy W2 v.ownBlock) {base' : Nat} {e' : TypeId} {size' : Nat} {v' : Value} {n' : Nat} {xs' : List Value} (hne : e' ≠ e) (h2 : W1.ownsRow base' e' size' v' n' xs') : W2.ownsRow base' e' size' v' n' xs' := by
  obtain ⟨h1, h2 | ⟨g, cap, cur, hv, hg', hh, r⟩⟩ := h2
  · exact ⟨h1, .inl h2⟩
  · exact ⟨h1, .inr ⟨g, cap, cur, hv, hg', keep_row h hg hh (.inl fun c f e => by cases e; exact hne rfl), r⟩⟩
theorem own_set {W : World} {base : Nat} {e t : TypeId} {size : Nat} {v : Value} {n : Nat} {xs : List Value} (h : W.ownsRow base e size v n xs) {g : Nat} {cur : Array Value} (hg : W.heap[g]? = some (.cells cur t (0, 0))) (hne : e ≠ t) (j : Nat) (u : Value) : (W.setCell ⟨g, j, none⟩ u).ownsRow base e size v n xs := by
  obtain ⟨h1, h2 | ⟨g', cap, cur', hv, hg', hh, r⟩⟩ := h
  · exact ⟨h1, .inl h2⟩
  · exact ⟨h1, .inr ⟨g', cap, cur', hv, hg', hsetS_ne hh (fun e => by subst e; rw [hg] at hh; cases hh; exact hne rfl), r⟩⟩
theorem owns_mono {W : World} {base base' : Nat} {e : TypeId} {size : Nat} {v : Value} {n : Nat} {xs : List Value} (h : W.ownsRow base e size v n xs) (hb : base' ≤ base) : W.ownsRow base' e size v n xs := by
  obtain ⟨h1, h2 | ⟨g', cap, cur', hv, hg', r⟩⟩ := h
  · exact ⟨h1, .inl h2⟩
  · exact ⟨h1, .inr ⟨g', cap, cur', hv, Nat.le_trans hb hg', r⟩⟩

theorem own_but {W W' : World} {base base' : Nat} {e t : TypeId} {size : Nat} {v : Value} {n : Nat} {xs : List Value} (h : W.ownsRow base e size v n xs) {g : Nat} (hb : But (fun b => b = g) W W') {cur : Array Value} (hg : W.heap[g]? = some (.cells cur t (0, 0))) (hne : e ≠ t) (hbb : base' ≤ base) : W'.ownsRow base' e size v n xs := by
  obtain ⟨h1, h2 | ⟨g', cap, cur', hv, hg', hh, r⟩⟩ := h
  · exact ⟨h1, .inl h2⟩
  · exact ⟨h1, .inr ⟨g', cap, cur', hv, Nat.le_trans hbb hg', (hb.block g' (Array.getElem?_eq_some_iff.1 hh).1 (fun e => by subst e; rw [hg] at hh; cases hh; exact hne rfl)).trans hh, r⟩⟩

theorem bdB_size (c : Cg) (hc : c.wf) (s : ByteArray) (h : s.size ≤ 4096) : (bdB c s).size ≤ 60000000 := by
  unfold bdB
  have h1 := bdL_size c hc 4096 (lnsB s).length (lnsB s) rfl (fun x hx => by have := lnsF_mem _ s x hx; omega)
  have h2 := lnsF_len s.size s
  have h3 : (lnsB s).length ≤ 4096 := by unfold lnsB; omega
  exact Nat.le_trans h1 (Nat.le_trans (Nat.mul_le_mul_right _ h3) (by decide))

theorem wp_calmS {P : Program} {c : Code} {Q : Exit → Act → World → Prop} {a : Act} {w : World} (h : c.wp P (calmQ (Q .normal)) a w) : c.wp P Q a w := wp_mono h (fun e a w h => by obtain ⟨rfl, h⟩ := h; exact h)

/-- The message that is being made: its block, its body. -/
def NM14 (w : World) (gn : Nat) (st : ByteArray) (vh vb : Value) (nb : ByteArray) (W : World) : Prop :=
  w.heap.size ≤ gn ∧ W.heap[gn]? = some (.cells #[.string st, vh, vb] 25 (0, 0)) ∧ W.ownsRow w.heap.size 5 1 vb nb.size (nvs nb)

set_option maxRecDepth 100000 in
set_option maxHeartbeats 8000000 in
theorem message_any (c : Cg) (mv : Value) (st : ByteArray) (sv sb : Value) (hs : List Hr) (zb : List Int) (w : World) (hT : TabI w) (hM : TabM w) (hc : c.wf) (hI : RdP2 w.heap.size w mv c.media) (hH : RdM w.heap.size w sv hs) (hB : Rd w.heap.size w sb zb) (hz : zb.length ≤ 4096) (hhl : hs.length ≤ 64) (hhs : ∀ h ∈ hs, h.1.size ≤ 4096 ∧ h.2.size ≤ 4096) :
    Calls Tryd.prog 29 #[.agg #[.string c.host, .string c.is, .int .u16 c.port, .int .u16 c.np, mv], .agg #[.string st, sv, sb]] w fun e w' => Later w w' ∧ ∃ vh vb, e = .returned (.agg #[.string st, vh, vb]) ∧ w'.ownsRow w.heap.size 34 2 vh hs.length (hrs (mgH c (bdB c (strOfNums zb)).size hs)) ∧ w'.ownsRow w.heap.size 5 1 vb (bdB c (strOfNums zb)).size (nvs (bdB c (strOfNums zb))) := by
  obtain ⟨sa, scp, rfl, hsc1, hsc2⟩ := hH.slice
  have hb4 : Later w (((w.alloc (.cells #[.string c.host, .string c.is, .int .u16 c.port, .int .u16 c.np, mv] 65)).alloc (.cells #[.string st, .slice sa hs.length scp, sb] 25)).alloc (.cells #[.string ⟨#[]⟩, .slice none 0 0, .slice none 0 0] 25)) := (((Below.refl _ _).alloc (Nat.le_refl _) _).alloc (by simp) _).alloc (by simp <;> omega) _
  have c0 : (((w.alloc (.cells #[.string c.host, .string c.is, .int .u16 c.port, .int .u16 c.np, mv] 65)).alloc (.cells #[.string st, .slice sa hs.length scp, sb] 25)).alloc (.cells #[.string ⟨#[]⟩, .slice none 0 0, .slice none 0 0] 25)).heap[w.heap.size]? = some (.cells #[.string c.host, .string c.is, .int .u16 c.port, .int .u16 c.np, mv] 65) := (Below.heap_alloc _ _ _ (by simp <;> omega)).trans ((Below.heap_alloc _ _ _ (by simp)).trans (heap_alloc_new w _))
  have c1 : (((w.alloc (.cells #[.string c.host, .string c.is, .int .u16 c.port, .int .u16 c.np, mv] 65)).alloc (.cells #[.string st, .slice sa hs.length scp, sb] 25)).alloc (.cells #[.string ⟨#[]⟩, .slice none 0 0, .slice none 0 0] 25)).heap[w.heap.size + 1]? = some (.cells #[.string st, .slice sa hs.length scp, sb] 25) := by
    have := heap_alloc_new (w.alloc (.cells #[.string c.host, .string c.is, .int .u16 c.port, .int .u16 c.np, mv] 65)) (.cells #[.string st, .slice sa hs.length scp, sb] 25)
    rw [World.size_alloc] at this
    exact (Below.heap_alloc _ _ _ (by simp)).trans this
  have c2 : (((w.alloc (.cells #[.string c.host, .string c.is, .int .u16 c.port, .int .u16 c.np, mv] 65)).alloc (.cells #[.string st, .slice sa hs.length scp, sb] 25)).alloc (.cells #[.string ⟨#[]⟩, .slice none 0 0, .slice none 0 0] 25)).heap[w.heap.size + 1 + 1]? = some (.cells #[.string ⟨#[]⟩, .slice none 0 0, .slice none 0 0] 25) := by
    have := heap_alloc_new ((w.alloc (.cells #[.string c.host, .string c.is, .int .u16 c.port, .int .u16 c.np, mv] 65)).alloc (.cells #[.string st, .slice sa hs.length scp, sb] 25)) (.cells #[.string ⟨#[]⟩, .slice none 0 0, .slice none 0 0] 25)
    simpa only [World.size_alloc] using this
  have hs4 : (((w.alloc (.cells #[.string c.host, .string c.is, .int .u16 c.port, .int .u16 c.np, mv] 65)).alloc (.cells #[.string st, .slice sa hs.length scp, sb] 25)).alloc (.cells #[.string ⟨#[]⟩, .slice none 0 0, .slice none 0 0] 25)).heap.size = w.heap.size + 1 + 1 + 1 := by simp
  have C0 := hide c0
  have C1 := hide c1
  have C2 := hide c2
  have HS4 := hide hs4
  clear c0 c1 c2 hs4
  have hnbs := bdB_size c hc (strOfNums zb) (by rw [strOfNums_size]; exact hz)
  generalize hnb : bdB c (strOfNums zb) = nb at *
  have HNB := hide hnb
  clear hnb
  go_enter Tryd.func29, Tryd.ntmps29
  go_upto_region 1 with fail
  generalize ((w.alloc (.cells #[.string c.host, .string c.is, .int .u16 c.port, .int .u16 c.np, mv] 65)).alloc (.cells #[.string st, .slice sa hs.length scp, sb] 25)).alloc (.cells #[.string ⟨#[]⟩, .slice none 0 0, .slice none 0 0] 25) = w4 at *
  have hs4 : w4.heap.size = w.heap.size + 1 + 1 + 1 := HS4.out
  generalize hgc : w.heap.size = gc at *
  refine wp_mono (Q := fun e a' W => e = .normal ∧ ∃ gn vb, a' = { tmps := #[.agg #[.string c.host, .string c.is, .int .u16 c.port, .int .u16 c.np, mv], .agg #[.string st, .slice sa hs.length scp, sb], .pointer (some ⟨gc, 0, none⟩), .pointer (some ⟨gc + 1, 0, none⟩), .pointer (some ⟨gc + 1 + 1, 0, none⟩), .pointer (some ⟨gn, 0, none⟩), undef, undef, .pointer (some ⟨gc + 1, 0, none⟩), .string st, .agg #[.string c.host, .string c.is, .int .u16 c.port, .int .u16 c.np, mv], .pointer (some ⟨gc + 1, 2, none⟩), sb, vb, .agg #[.string st, .slice none 0 0, vb], undef, undef, undef, undef, undef, undef, undef, undef, undef, undef, undef, undef, undef, undef, undef, undef, undef, undef, undef, undef, undef, undef, undef], defers := [] } ∧ Later w4 W ∧ NM14 w4 gn st (.slice none 0 0) vb nb W) ?reg ?rest
  case reg =>
    refine anyU_begin (R1 := Later) (R2 := fun _ _ => True) (D := [8]) 9 rfl (by kernel_rfl) ?_
    have ld : Later w4 w4.drew := Later.drew w4
    generalize w4.drew = Wd at *
    have LWd : Later w Wd := Later.trans hb4 ld
    have qC : ∀ v1, Later Wd v1 → ∀ j, v1.cell? ⟨gc, j, none⟩ = #[.string c.host, .string c.is, .int .u16 c.port, .int .u16 c.np, mv][j]? := fun v1 hv => block_cell (later_keep (ld.trans hv) C0.out)
    have qM : ∀ v1, Later Wd v1 → ∀ j, v1.cell? ⟨gc + 1, j, none⟩ = #[.string st, .slice sa hs.length scp, sb][j]? := fun v1 hv => block_cell (later_keep (ld.trans hv) C1.out)
    refine anyU_val Later.pre 0 [1, 6, 8] rfl (by rfl) (by rfl) (by kernel_rfl) (by kernel_rfl) (by kernel_rfl) (by kernel_rfl) (by kernel_rfl) (fun _ _ _ _ h => by cases h.1) (by rfl) ?_; apply Exists.intro; refine ⟨fun v1 hv1 => ?_, ?_⟩; (· (go_simp; rfl)); simp only [Act.put, List.setIfInBounds_toArray, List.set_cons_zero, List.set_cons_succ]
    refine anyU_val Later.pre 1 [6, 8] rfl (by rfl) (by rfl) (by kernel_rfl) (by kernel_rfl) (by kernel_rfl) (by kernel_rfl) (by kernel_rfl) (fun _ _ _ _ h => by cases h.1) (by rfl) ?_; apply Exists.intro; refine ⟨fun v1 hv1 => ?_, ?_⟩; (· (go_simp; rfl)); simp only [Act.put, List.setIfInBounds_toArray, List.set_cons_zero, List.set_cons_succ]
    refine anyU_val Later.pre 2 [5, 6, 8] rfl (by rfl) (by rfl) (by kernel_rfl) (by kernel_rfl) (by kernel_rfl) (by kernel_rfl) (by kernel_rfl) (fun _ _ _ _ h => by cases h.1) (by rfl) ?_; apply Exists.intro; refine ⟨fun v1 hv1 => ?_, ?_⟩; (· (go_simp; rfl)); simp only [Act.put, List.setIfInBounds_toArray, List.set_cons_zero, List.set_cons_succ]
    refine anyU_val Later.pre 3 [4, 5, 6, 8] rfl (by rfl) (by rfl) (by kernel_rfl) (by kernel_rfl) (by kernel_rfl) (by kernel_rfl) (by kernel_rfl) (fun _ _ _ _ h => by cases h.1) (by rfl) ?_; apply Exists.intro; refine ⟨fun v1 hv1 => ?_, ?_⟩; (· (go_simp; rfl)); simp only [Act.put, List.setIfInBounds_toArray, List.set_cons_zero, List.set_cons_succ]
    refine anyU_val Later.pre 4 [5, 6, 8] rfl (by rfl) (by rfl) (by kernel_rfl) (by kernel_rfl) (by kernel_rfl) (by kernel_rfl) (by kernel_rfl) (fun _ _ _ _ h => by cases h.1) (by rfl) ?_; apply Exists.intro; refine ⟨fun v1 hv1 => ?_, ?_⟩; (· (go_simp; rfl)); simp only [Act.put, List.setIfInBounds_toArray, List.set_cons_zero, List.set_cons_succ]
    clear qC qM
    refine anyU_two 5 7 rfl rfl (by kernel_rfl) (by rfl) (by rfl) ?ca ?al
    case ca =>
      refine wp_enter 42 #[.agg #[.string c.host, .string c.is, .int .u16 c.port, .int .u16 c.np, mv], sb] (by go_simp) ?_
      refine (body_any c mv sb zb Wd (hT.later LWd) (hM.later LWd) hc ((show RdP2 w.heap.size w mv c.media from hgc ▸ hI).later LWd) ((show Rd w.heap.size w sb zb from hgc ▸ hB).later LWd) hz).mono ?_
      rintro e W1 ⟨l1, v, rfl, hrow⟩
      rw [HNB.out] at hrow
      obtain ⟨va, vc, rfl⟩ := owns_form hrow
      refine ⟨Rj_out (by rfl) l1, ?_⟩
      simp only [Act.put, List.setIfInBounds_toArray, List.set_cons_zero, List.set_cons_succ]
      refine anyU_val Later.pre 6 [8] rfl (by rfl) (by rfl) (by kernel_rfl) (by kernel_rfl) (by kernel_rfl) (by kernel_rfl) (by kernel_rfl) (fun _ _ _ _ h => by cases h.1) (by rfl) ?_; apply Exists.intro; refine ⟨fun v1 hv1 => ?_, ?_⟩; (· (go_simp; rfl)); simp only [Act.put, List.setIfInBounds_toArray, List.set_cons_zero, List.set_cons_succ]
      refine anyU_one 7 rfl (by kernel_rfl) (by rfl) ?_
      have la := later_allocR W1 (.cells #[.string ⟨#[]⟩, .slice none 0 0, .slice none 0 0] 25)
      have HA := heap_alloc_new W1 (.cells #[.string ⟨#[]⟩, .slice none 0 0, .slice none 0 0] 25)
      unfold Oper.wp
      go_simp
      refine ⟨Rj_out (by rfl) la, ?_⟩
      have hsg : w4.heap.size ≤ W1.heap.size := (ld.trans l1).size
      have LL := ld.trans (l1.trans la)
      change wpAnyU _ _ _ _ _ _ _ _ _ _ (W1.alloc (.cells #[.string ⟨#[]⟩, .slice none 0 0, .slice none 0 0] 25))
      generalize W1.alloc (.cells #[.string ⟨#[]⟩, .slice none 0 0, .slice none 0 0] 25) = W5 at *
      generalize W1.heap.size = gn at *
      have hrow5 := ownsS_ct hrow (CTs.of la)
      have kA := block_cell HA; have fA := block_frozen HA; refine anyU_one 8 rfl (by kernel_rfl) (by rfl) ?_; unfold Oper.wp; go_simp; refine ⟨Rj_in (by rfl) trivial, ?_⟩; clear kA fA; generalize hV : (((W5.setCell ⟨gn, 0, none⟩ _).setCell ⟨gn, 1, none⟩ _).setCell ⟨gn, 2, none⟩ _) = V8; have hV9 : V8 = putRow W5 gn 0 [.string st, .slice none 0 0, .slice va nb.size vc] := hV.symm; have hb8 : But (fun b => b = gn) W5 V8 := (by rw [hV9]; exact putRow_but (E := fun b => b = gn) (n := gn) rfl _ _ _ _ (But.refl _ _)); have p8 := putRow_all [.string st, .slice none 0 0, .slice va nb.size vc] HA rfl; rw [← hV9] at p8; clear hV hV9; refine anyU_done (by kernel_rfl) ?_; refine ⟨rfl, gn, .slice va nb.size vc, rfl, Below.trans LL (hb8.below LL.size (fun k h e => by omega)), hsg, p8, ?_⟩; refine own_but hrow5 hb8 HA (by decide) (by first | exact ld.size | exact (ld.trans la).size)
    case al =>
      have la := later_allocR Wd (.cells #[.string ⟨#[]⟩, .slice none 0 0, .slice none 0 0] 25)
      have HA0 := heap_alloc_new Wd (.cells #[.string ⟨#[]⟩, .slice none 0 0, .slice none 0 0] 25)
      unfold Oper.wp
      go_simp
      refine ⟨Rj_out (by rfl) la, ?_⟩
      have hsg : w4.heap.size ≤ Wd.heap.size := ld.size
      change wpAnyU _ _ _ _ _ _ _ _ _ _ (Wd.alloc (.cells #[.string ⟨#[]⟩, .slice none 0 0, .slice none 0 0] 25))
      generalize Wd.alloc (.cells #[.string ⟨#[]⟩, .slice none 0 0, .slice none 0 0] 25) = W3 at *
      generalize hgn : Wd.heap.size = gn at *
      have LW3 : Later w W3 := LWd.trans la
      refine anyU_one 5 rfl (by kernel_rfl) (by rfl) ?_
      refine wp_enter 42 #[.agg #[.string c.host, .string c.is, .int .u16 c.port, .int .u16 c.np, mv], sb] (by go_simp) ?_
      refine (body_any c mv sb zb W3 (hT.later LW3) (hM.later LW3) hc ((show RdP2 w.heap.size w mv c.media from hgc ▸ hI).later LW3) ((show Rd w.heap.size w sb zb from hgc ▸ hB).later LW3) hz).mono ?_
      rintro e W5 ⟨l1, v, rfl, hrow5⟩
      rw [HNB.out] at hrow5
      obtain ⟨va, vc, rfl⟩ := owns_form hrow5
      refine ⟨Rj_out (by rfl) l1, ?_⟩
      simp only [Act.put, List.setIfInBounds_toArray, List.set_cons_zero, List.set_cons_succ]
      refine anyU_val Later.pre 6 [8] rfl (by rfl) (by rfl) (by kernel_rfl) (by kernel_rfl) (by kernel_rfl) (by kernel_rfl) (by kernel_rfl) (fun _ _ _ _ h => by cases h.1) (by rfl) ?_; apply Exists.intro; refine ⟨fun v1 hv1 => ?_, ?_⟩; (· (go_simp; rfl)); simp only [Act.put, List.setIfInBounds_toArray, List.set_cons_zero, List.set_cons_succ]
      have HA := later_keep l1 HA0
      have LL := ld.trans (la.trans l1)
      have kA := block_cell HA; have fA := block_frozen HA; refine anyU_one 8 rfl (by kernel_rfl) (by rfl) ?_; unfold Oper.wp; go_simp; refine ⟨Rj_in (by rfl) trivial, ?_⟩; clear kA fA; generalize hV : (((W5.setCell ⟨gn, 0, none⟩ _).setCell ⟨gn, 1, none⟩ _).setCell ⟨gn, 2, none⟩ _) = V8; have hV9 : V8 = putRow W5 gn 0 [.string st, .slice none 0 0, .slice va nb.size vc] := hV.symm; have hb8 : But (fun b => b = gn) W5 V8 := (by rw [hV9]; exact putRow_but (E := fun b => b = gn) (n := gn) rfl _ _ _ _ (But.refl _ _)); have p8 := putRow_all [.string st, .slice none 0 0, .slice va nb.size vc] HA rfl; rw [← hV9] at p8; clear hV hV9; refine anyU_done (by kernel_rfl) ?_; refine ⟨rfl, gn, .slice va nb.size vc, rfl, Below.trans LL (hb8.below LL.size (fun k h e => by omega)), hsg, p8, ?_⟩; refine own_but hrow5 hb8 HA (by decide) (by first | exact ld.size | exact (ld.trans la).size)
  case rest =>
    rintro e a' W ⟨rfl, gn, vb, rfl, lW, hN⟩
    obtain ⟨hgn, hN1, hN2⟩ := hN
    have D0 := hide (later_keep lW C0.out)
    have D1 := hide (later_keep lW C1.out)
    have D2 := hide (later_keep lW C2.out)
    have LW : Later w W := Later.trans hb4 lW
    obtain ⟨va, vc, rfl⟩ := owns_form hN2
    have HN1 := hide hN1
    have HN2 := hide (owns_mono (base' := gc) hN2 (by omega))
    have LWg : Below gc w W := hgc ▸ LW
    have HH := hide (hH.below LWg)
    have hgn3 : gc + 3 ≤ gn := by omega
    clear hN1 hN2 C0 C1 C2 hgn
    dsimp only
    have k1 := block_cell D1.out
    generalize hnh : mgH c nb.size hs = mh at *
    go_upto_region 3 with fail
    clear k1
    go_loopw [18] (fun iv wr => ∃ (k : Nat) (vh : Value), k ≤ hs.length ∧ iv = .int .i64 (k : Int) ∧ Below gc W wr ∧ Hid (wr.heap[gc]? = some (.cells #[.string c.host, .string c.is, .int .u16 c.port, .int .u16 c.np, mv] 65 (0, 0))) ∧ Hid (wr.heap[gc + 1 + 1]? = some (.cells #[.string ⟨#[]⟩, .slice none 0 0, .slice none 0 0] 25 (0, 0))) ∧ Hid (wr.heap[gn]? = some (.cells #[.string st, vh, .slice va nb.size vc] 25 (0, 0))) ∧ Hid (wr.ownsRow gc 5 1 (.slice va nb.size vc) nb.size (nvs nb)) ∧ Hid (wr.ownsRow gc 34 2 vh k (hrs (mgH c nb.size (hs.take k))))) (fun iv _ => hs.length - (intOf iv).toNat)
    case atStart => exact ⟨0, .slice none 0 0, by omega, rfl, Below.refl _ _, D0, D2, HN1, HN2, rfl, .inl ⟨rfl, rfl⟩⟩
    case round =>
      obtain ⟨k, vh, hk, rfl, hbr, E0, E2, EN, EB, EH⟩ := hrel
      have LWr : Later w wr := by show Below w.heap.size w wr; rw [hgc]; exact LWg.trans hbr
      obtain ⟨ha, hcp, rfl⟩ := owns_form EH.out
      by_cases hlt : k < hs.length
      · have hlt' : (k : Int) < (hs.length : Int) := by omega
        obtain ⟨b, off, cp, e, _, _, hbn, hcs⟩ := ((HH.out).below hbr).cells (by omega)
        cases e
        have d0 := hcs k hlt 0 (by omega)
        have d1 := hcs k hlt 1 (by omega)
        have hsz := hhs hs[k] (List.getElem_mem hlt)
        have HTK := hide (mgH_take c nb.size hs k hlt)
        clear hcs
        generalize hs[k] = hk at *
        obtain ⟨n1, n2⟩ := hk
        simp only [hrc, List.getElem?_cons_zero, List.getElem?_cons_succ, Nat.add_zero] at d0 d1 HTK
        simp only at hsz
        have la := later_allocR wr (.cells #[.string n1, .string n2] 34)
        have HA := hide (heap_alloc_new wr (.cells #[.string n1, .string n2] 34))
        go_upto_region 5 with fail
        clear d0 d1
        generalize wr.alloc _ = wq at *
        generalize hgh : wr.heap.size = gh at *
        have hgcr : gc ≤ gh := by rw [← hgh, ← hgc]; exact LWr.size
        refine wp_calmS ?_
        refine anyU_begin (R1 := Later) (R2 := fun _ _ => True) (D := [12, 14]) 15 rfl (by kernel_rfl) ?_
        have ld : Later wq wq.drew := Later.drew wq
        generalize wq.drew = Wd at *
        have lq := la.trans ld
        have LWd : Later w Wd := LWr.trans lq
        have qC : ∀ v1, Later Wd v1 → ∀ j, v1.cell? ⟨gc, j, none⟩ = #[.string c.host, .string c.is, .int .u16 c.port, .int .u16 c.np, mv][j]? := fun v1 hv => block_cell (later_keep (lq.trans hv) E0.out)
        have qN : ∀ v1, Later Wd v1 → ∀ j, v1.cell? ⟨gn, j, none⟩ = #[.string st, .slice ha k hcp, .slice va nb.size vc][j]? := fun v1 hv => block_cell (later_keep (lq.trans hv) EN.out)
        have qH : ∀ v1, Later Wd v1 → ∀ j, v1.cell? ⟨gh, j, none⟩ = #[.string n1, .string n2][j]? := fun v1 hv => block_cell (later_keep (ld.trans hv) HA.out)
        refine anyU_val Later.pre 0 [1, 12, 14] rfl (by rfl) (by rfl) (by kernel_rfl) (by kernel_rfl) (by kernel_rfl) (by kernel_rfl) (by kernel_rfl) (fun _ _ _ _ h => by cases h.1) (by rfl) ?_; apply Exists.intro; refine ⟨fun v1 hv1 => ?_, ?_⟩; (· (go_simp; rfl)); simp only [Act.put, List.setIfInBounds_toArray, List.set_cons_zero, List.set_cons_succ]
        refine anyU_val Later.pre 1 [12, 14] rfl (by rfl) (by rfl) (by kernel_rfl) (by kernel_rfl) (by kernel_rfl) (by kernel_rfl) (by kernel_rfl) (fun _ _ _ _ h => by cases h.1) (by rfl) ?_; apply Exists.intro; refine ⟨fun v1 hv1 => ?_, ?_⟩; (· (go_simp; rfl)); simp only [Act.put, List.setIfInBounds_toArray, List.set_cons_zero, List.set_cons_succ]
        refine anyU_val Later.pre 2 [3, 10, 11, 12, 14] rfl (by rfl) (by rfl) (by kernel_rfl) (by kernel_rfl) (by kernel_rfl) (by kernel_rfl) (by kernel_rfl) (fun _ _ _ _ h => by cases h.1) (by rfl) ?_; apply Exists.intro; refine ⟨fun v1 hv1 => ?_, ?_⟩; (· (go_simp; rfl)); simp only [Act.put, List.setIfInBounds_toArray, List.set_cons_zero, List.set_cons_succ]
        refine anyU_val Later.pre 3 [10, 11, 12, 14] rfl (by rfl) (by rfl) (by kernel_rfl) (by kernel_rfl) (by kernel_rfl) (by kernel_rfl) (by kernel_rfl) (fun _ _ _ _ h => by cases h.1) (by rfl) ?_; apply Exists.intro; refine ⟨fun v1 hv1 => ?_, ?_⟩; (· (go_simp; rfl)); simp only [Act.put, List.setIfInBounds_toArray, List.set_cons_zero, List.set_cons_succ]
        refine anyU_val Later.pre 4 [9, 10, 11, 12, 14] rfl (by rfl) (by rfl) (by kernel_rfl) (by kernel_rfl) (by kernel_rfl) (by kernel_rfl) (by kernel_rfl) (fun _ _ _ _ h => by cases h.1) (by rfl) ?_; apply Exists.intro; refine ⟨fun v1 hv1 => ?_, ?_⟩; (· (go_simp; rfl)); simp only [Act.put, List.setIfInBounds_toArray, List.set_cons_zero, List.set_cons_succ]
        refine anyU_val Later.pre 5 [9, 10, 11, 12, 14] rfl (by rfl) (by rfl) (by kernel_rfl) (by kernel_rfl) (by kernel_rfl) (by kernel_rfl) (by kernel_rfl) (fun _ _ _ _ h => by cases h.1) (by rfl) ?_; apply Exists.intro; refine ⟨fun v1 hv1 => ?_, ?_⟩; (· (go_simp; rfl)); simp only [Act.put, List.setIfInBounds_toArray, List.set_cons_zero, List.set_cons_succ]
        refine anyU_val Later.pre 6 [7, 8, 9, 10, 11, 12, 14] rfl (by rfl) (by rfl) (by kernel_rfl) (by kernel_rfl) (by kernel_rfl) (by kernel_rfl) (by kernel_rfl) (fun _ _ _ _ h => by cases h.1) (by rfl) ?_; apply Exists.intro; refine ⟨fun v1 hv1 => ?_, ?_⟩; (· (go_simp; rfl)); simp only [Act.put, List.setIfInBounds_toArray, List.set_cons_zero, List.set_cons_succ]
        refine anyU_val Later.pre 7 [8, 9, 10, 11, 12, 14] rfl (by rfl) (by rfl) (by kernel_rfl) (by kernel_rfl) (by kernel_rfl) (by kernel_rfl) (by kernel_rfl) (fun _ _ _ _ h => by cases h.1) (by rfl) ?_; apply Exists.intro; refine ⟨fun v1 hv1 => ?_, ?_⟩; (· (go_simp; rfl)); simp only [Act.put, List.setIfInBounds_toArray, List.set_cons_zero, List.set_cons_succ]
        refine anyU_val Later.pre 8 [9, 10, 11, 12, 14] rfl (by rfl) (by rfl) (by kernel_rfl) (by kernel_rfl) (by kernel_rfl) (by kernel_rfl) (by kernel_rfl) (fun _ _ _ _ h => by cases h.1) (by rfl) ?_; apply Exists.intro; refine ⟨fun v1 hv1 => ?_, ?_⟩; (· (go_simp; rfl)); simp only [Act.put, List.setIfInBounds_toArray, List.set_cons_zero, List.set_cons_succ]
        clear qC qN qH
        refine anyU_one 9 rfl (by kernel_rfl) (by rfl) ?_
        refine wp_enter 43 #[.agg #[.string c.host, .string c.is, .int .u16 c.port, .int .u16 c.np, mv], .agg #[.string n1, .string n2], .int .i64 (nb.size : Int)] (by go_simp) ?_
        refine (value_any c mv n1 n2 nb.size Wd (hT.later LWd) (hM.later LWd) hc (by omega) (by omega) (by omega)).mono ?_
        rintro e W1 ⟨rfl, l1⟩
        generalize vuB c nb.size (n1, n2) = nv at *
        refine ⟨Rj_out (by rfl) l1, ?_⟩
        simp only [Act.put, List.setIfInBounds_toArray, List.set_cons_zero, List.set_cons_succ]
        refine anyU_val Later.pre 10 [11, 12, 14] rfl (by rfl) (by rfl) (by kernel_rfl) (by kernel_rfl) (by kernel_rfl) (by kernel_rfl) (by kernel_rfl) (fun _ _ _ _ h => by cases h.1) (by rfl) ?_; apply Exists.intro; refine ⟨fun v1 hv1 => ?_, ?_⟩; (· (go_simp; rfl)); simp only [Act.put, List.setIfInBounds_toArray, List.set_cons_zero, List.set_cons_succ]
        refine anyU_one 11 rfl (by kernel_rfl) (by rfl) ?_
        have l2 := later_allocR W1 (.cells #[.string n1, .string nv] 34)
        have HNW := hide (heap_alloc_new W1 (.cells #[.string n1, .string nv] 34))
        unfold Oper.wp
        go_simp
        refine ⟨Rj_out (by rfl) l2, ?_⟩
        change wpAnyU _ _ _ _ _ _ _ _ _ _ (W1.alloc (.cells #[.string n1, .string nv] 34))
        generalize W1.alloc (.cells #[.string n1, .string nv] 34) = W5 at *
        generalize W1.heap.size = gw at *
        have LL := lq.trans (l1.trans l2)
        have EH5 := ownsS_ct EH.out (CTs.of LL)
        have EB5 := ownsS_ct EB.out (CTs.of LL)
        have EN5 := later_keep LL EN.out
        have E05 := later_keep LL E0.out
        have E25 := later_keep LL E2.out
        have hnk := block_cell HNW.out
        obtain ⟨i0, hi0, hz0, hz1, hz2⟩ := info_partsS info_hdr
        have hgc5 : gc ≤ W5.heap.size := by have := LL.size; omega
        obtain ⟨v', W2, hrun, hrow, hg, _⟩ := run_append_own (P := Tryd.prog) W5 gc 22 22 34 i0 (.agg #[.string ⟨#[]⟩, .string ⟨#[]⟩]) 2 32 Tryd.underlying22 hi0 hz0 hz1 hz2 rfl (by decide) (.slice ha k hcp) k (hrs (mgH c nb.size (hs.take k))) EH5 ⟨gw, 0, none⟩ 1 1 [.string n1, .string nv] rfl
          (fun j u hj => by
            rw [show (⟨gw, 0, none⟩ : Addr).add j = ⟨gw, 0 + j, none⟩ from by unfold Addr.add; split <;> simp_all]
            rw [Nat.zero_add, hnk j, ← hj]; simp)
          (by intro u hu; simp at hu; rcases hu with rfl | rfl <;> rfl) (by unfold maxLen; omega) (by omega) hgc5
        clear hnk
        refine anyU_one 12 rfl (by kernel_rfl) (by rfl) ?_
        refine wp_app (.tmp 23) (.tmp 33) 22 rfl _ _ rfl rfl v' W2 hrun ?_
        refine ⟨Rj_in (by rfl) trivial, ?_⟩
        simp only [Act.put, List.setIfInBounds_toArray, List.set_cons_zero, List.set_cons_succ]
        obtain ⟨a2, cp2, rfl⟩ := owns_form hrow
        have EN2 := keep_row EH5 hg EN5 (.inl fun cur f e => by cases e)
        have E02 := keep_row EH5 hg E05 (.inl fun cur f e => by cases e)
        have E22 := keep_row EH5 hg E25 (.inl fun cur f e => by cases e)
        have EB2 := keep_own EH5 hg (by decide) EB5
        refine anyU_one 13 rfl (by kernel_rfl) (by rfl) ?_
        refine wp_value (w' := W2) (.pointer (some ⟨gn, 1, none⟩)) (by go_simp) ?_
        refine ⟨Rj_out (by rfl) (Later.refl _), ?_⟩
        simp only [Act.put, List.setIfInBounds_toArray, List.set_cons_zero, List.set_cons_succ]
        have k2 := block_cell EN2
        have f2 := block_frozen EN2
        refine anyU_one 14 rfl (by kernel_rfl) (by rfl) ?_
        unfold Oper.wp
        go_simp
        refine ⟨Rj_in (by rfl) trivial, ?_⟩
        clear k2 f2
        refine anyU_done (by kernel_rfl) ?_
        refine ⟨rfl, ?_⟩
        have EN8 := heap_set1 EN2 1 (.slice a2 (k + 1) cp2)
        have E08 := hsetS_ne (j := 1) (v := .slice a2 (k + 1) cp2) E02 (m := gn) (by intro e; rw [← e] at EN2; rw [E02] at EN2; cases EN2)
        have E28 := hsetS_ne (j := 1) (v := .slice a2 (k + 1) cp2) E22 (m := gn) (by omega)
        have EB8 := own_set EB2 EN2 (by decide) 1 (.slice a2 (k + 1) cp2)
        have EH8 := own_set hrow EN2 (by decide) 1 (.slice a2 (k + 1) cp2)
        have B8 : Below gc wr (W2.setCell ⟨gn, 1, none⟩ (.slice a2 (k + 1) cp2)) := ⟨hg.os.trans LL.os, hg.tape.trans LL.tape, hg.output.trans LL.output, by have := LL.size; have := hg.size; simp; omega, fun i hi => by
          cases hh : wr.heap[i]? with
          | none => have := Array.getElem?_eq_none_iff.1 hh; omega
          | some o => exact hsetS_ne (keep_row EH5 hg (later_keep LL hh) (.inr hi)) (by omega)⟩
        have EH9 : (W2.setCell ⟨gn, 1, none⟩ (.slice a2 (k + 1) cp2)).ownsRow gc 34 2 (.slice a2 (k + 1) cp2) (k + 1) (hrs (mgH c nb.size (hs.take (k + 1)))) := by
          rw [HTK.out, hrs_snoc]
          exact EH8
        have HE8 := hide E08; have HF8 := hide E28; have HG8 := hide EN8; have HB8 := hide EB8; have HH9 := hide EH9; have HBL := hide (hbr.trans B8)
        clear E08 E28 EN8 EB8 EH9 EH8 B8 hrow EB2 E22 E02 EN2 hg hrun E25 E05 EN5 EB5 EH5
        generalize W2.setCell ⟨gn, 1, none⟩ (.slice a2 (k + 1) cp2) = V8 at *
        go_wp2_with fail
        go_roundw
        case rel => exact ⟨k + 1, .slice a2 (k + 1) cp2, by omega, by go_num, HBL.out, HE8, HF8, HG8, HB8, HH9⟩
        case measure => simp [intOf]; omega
      · have hnl : ¬ (k : Int) < (hs.length : Int) := by omega
        have hkk : k = hs.length := by omega
        have HH9 : Hid (wr.ownsRow gc 34 2 (.slice ha k hcp) hs.length (hrs mh)) := by
          have := EH.out
          rw [hkk, List.take_length, hnh] at this
          rw [hkk]
          exact this
        clear hkk
        have k2 := block_cell EN.out
        have k4 := block_cell E2.out
        have f4 := block_frozen E2.out
        go_wp2_with fail
        generalize hV : (((wr.setCell ⟨gc + 1 + 1, 0, none⟩ _).setCell ⟨gc + 1 + 1, 1, none⟩ _).setCell ⟨gc + 1 + 1, 2, none⟩ _) = V8
        have hV9 : V8 = putRow wr (gc + 1 + 1) 0 [.string st, .slice ha k hcp, .slice va nb.size vc] := hV.symm
        have hb8 : But (fun b => b = gc + 1 + 1) wr V8 := by rw [hV9]; exact putRow_but (E := fun b => b = gc + 1 + 1) (n := gc + 1 + 1) rfl _ _ _ _ (But.refl _ _)
        have p8 := putRow_all [.string st, .slice ha k hcp, .slice va nb.size vc] E2.out rfl
        rw [← hV9] at p8
        clear hV hV9
        have P8 := block_cell p8
        have hw8 : Later w V8 := Below.trans LWr (hb8.below LWr.size (fun k h e => by omega))
        exact bodyPost_ret (v := .agg #[.string st, .slice ha k hcp, .slice va nb.size vc]) (by simp [results, Tryd.results29, go_sem, P8]) rfl ⟨hw8, _, _, rfl, own_but HH9.out hb8 E2.out (by decide) (Nat.le_refl _), own_but EB.out hb8 E2.out (by decide) (Nat.le_refl _)⟩
end Go.Proofs.YtifdocjagnhncabDoor
