/- Several texts in one. -/
import Derived.Test.YtohflohdbkamnaaGreatDoorX11
import Derived.Test.YtohflohdbkamnaaGreatDoorX4
import Derived.Test.YtohflohdbkamnaaGreatDoorX7
import Derived.Test.YtohflohdbkamnaaGreatDoorHd
/- Package ctrl: whether two messages, two frames are the same; the document's answers. -/
namespace Go.Proofs.YtohflohdbkamnaaGreatDoor
open Go.RowKit Go.Shelf
set_option maxRecDepth 100000
set_option linter.unusedVariables false
set_option linter.unusedSimpArgs false

end Go.Proofs.YtohflohdbkamnaaGreatDoor

/- Package ctrl: what Parse answers, in one form. -/
namespace Go.Proofs.YtohflohdbkamnaaGreatDoor
open Go.RowKit Go.Shelf
set_option maxRecDepth 100000
set_option linter.unusedVariables false
set_option linter.unusedSimpArgs false

end Go.Proofs.YtohflohdbkamnaaGreatDoor

/- The document's ParseIcmp. -/
namespace Go.Proofs.YtohflohdbkamnaaGreatDoor
open Go.RowKit Go.Shelf
set_option maxRecDepth 100000
set_option linter.unusedVariables false
set_option linter.unusedSimpArgs false

/-- Bytes of one's own stay where another block turns that holds no bytes. -/
theorem Ow.other {base mb : Nat} {W W' : World} {v : Value} {zs : List Int} {cur : Array Value} {t : TypeId} (h : Ow base W v zs) (hm : W.heap[mb]? = some (.cells cur t (0, 0))) (ht : t ≠ 5) (hb : But (fun b => b = mb) W W') : Ow base W' v zs := by
  rcases h with h | ⟨g, cap, c, h1, h2, h3, h4, h5, h6, h7⟩
  · exact .inl h
  · refine .inr ⟨g, cap, c, h1, h2, h3, h4, h5, (hb.block g (Array.getElem?_eq_some_iff.1 h6).1 (fun e => ?_)).trans h6, h7⟩
    subst e
    rw [hm] at h6
    simp at h6
    exact ht h6.2

end Go.Proofs.YtohflohdbkamnaaGreatDoor

/- The document's ParseGre: the beginning. -/
namespace Go.Proofs.YtohflohdbkamnaaGreatDoor
open Go.RowKit Go.Shelf
set_option maxRecDepth 100000
set_option linter.unusedVariables false
set_option linter.unusedSimpArgs false

end Go.Proofs.YtohflohdbkamnaaGreatDoor

/- The document's ParseGre. -/
namespace Go.Proofs.YtohflohdbkamnaaGreatDoor
open Go.RowKit Go.Shelf
set_option maxRecDepth 100000
set_option linter.unusedVariables false
set_option linter.unusedSimpArgs false

end Go.Proofs.YtohflohdbkamnaaGreatDoor

/- The document's kinds of messages; the walk of the law CtrlKinds. -/
namespace Go.Proofs.YtohflohdbkamnaaGreatDoor
open Go.RowKit Go.Shelf
set_option maxRecDepth 100000
set_option linter.unusedVariables false
set_option linter.unusedSimpArgs false

end Go.Proofs.YtohflohdbkamnaaGreatDoor

/- Layer 5: Of in one form; the document's Of. -/
namespace Go.Proofs.YtohflohdbkamnaaGreatDoor
open Go.RowKit Go.Shelf
set_option maxRecDepth 100000
set_option linter.unusedVariables false
set_option linter.unusedSimpArgs false

def ofe (proto src dst : Int) (zd : List Int) : Int := if proto = 6 then pte 6 src dst zd else if proto = 17 then pue 17 src dst zd else if proto = 1 then oie zd else if proto = 47 then pge 47 zd else 12
def ofa (proto : Int) (zd : List Int) : Int := if proto = 6 then wat zd 0 else if proto = 17 then wat zd 0 else if proto = 1 then wat zd 4 else 0
def ofb (proto : Int) (zd : List Int) : Int := if proto = 6 then wat zd 2 else if proto = 17 then wat zd 2 else if proto = 1 then wat zd 4 else getAt2 zd 6

set_option maxHeartbeats 2000000 in
theorem of_any (tos id ttl proto src dst : Int) (keep : Bool) (so sd : Value) (zd : List Int) (w : World) (hT : Tb w) (hB : Mt.By zd) (hI : Rd w.heap.size w sd zd) (hl : 12 + zd.length ≤ 140737488355328) (hsr : 0 ≤ src ∧ src ≤ 4294967295) (hds : 0 ≤ dst ∧ dst ≤ 4294967295) :
    Calls Tryz.prog 79 #[.agg #[.int .u8 tos, .int .u16 id, .bool keep, .int .u8 ttl, .int .u8 proto, .int .u32 src, .int .u32 dst, so, sd]] w fun e w' => Below w.heap.size w w' ∧ e = .returned (.tuple #[otv (ofe proto src dst zd) proto src dst (ofa proto zd) (ofb proto zd), .int .i64 (ofe proto src dst zd)]) := by
  obtain ⟨ad, cd, rfl, _, _⟩ := hI.slice
  by_cases h6 : proto = 6
  · subst h6
    exact of_gen 6 (wat zd 0) (wat zd 2) (pte 6 src dst zd) _ _ tos id ttl src dst keep so ad zd.length cd w (fun _ _ h => look_tcp h) cf_tcp (fun w' hb => ofTcp_any tos id ttl 6 src dst keep so _ zd w' hB ((hI.below hb).mono hb.size) hl hsr hds)
  by_cases h17 : proto = 17
  · subst h17
    exact of_gen 17 (wat zd 0) (wat zd 2) (pue 17 src dst zd) _ _ tos id ttl src dst keep so ad zd.length cd w (fun _ _ h => look_udp h) cf_udp (fun w' hb => ofUdp_any tos id ttl 17 src dst keep so _ zd w' hB ((hI.below hb).mono hb.size) hl hsr hds)
  by_cases h1 : proto = 1
  · subst h1
    exact of_gen 1 (wat zd 4) (wat zd 4) (oie zd) _ _ tos id ttl src dst keep so ad zd.length cd w (fun _ _ h => look_icmp h) cf_icmp (fun w' hb => ofIcmp_any tos id ttl src dst keep so _ zd w' hB ((hI.below hb).mono hb.size) (by omega))
  by_cases h47 : proto = 47
  · subst h47
    exact of_gen 47 0 (getAt2 zd 6) (pge 47 zd) _ _ tos id ttl src dst keep so ad zd.length cd w (fun _ _ h => look_gre h) cf_gre (fun w' hb => ofGre_any tos id ttl 47 src dst keep so _ zd w' (hT.below hb hT.pos) hB ((hI.below hb).mono hb.size) hl hsr hds)
  have he : ofe proto src dst zd = 12 := by unfold ofe; rw [if_neg h6, if_neg h17, if_neg h1, if_neg h47]
  rw [he]
  exact of_other proto tos id ttl src dst keep so ad zd.length cd w ⟨h6, h17, h1, h47⟩

end Go.Proofs.YtohflohdbkamnaaGreatDoor

/- Layer 5: what is read of the first eight bytes of a quoted packet's data. -/
namespace Go.Proofs.YtohflohdbkamnaaGreatDoor
open Go.RowKit Go.Shelf
set_option maxRecDepth 100000
set_option linter.unusedVariables false
set_option linter.unusedSimpArgs false

theorem rd8 {W : World} {b : Nat} {x0 x1 x2 x3 x4 x5 x6 x7 : Int} (h : W.heap[b]? = some (.cells #[.int .u8 x0, .int .u8 x1, .int .u8 x2, .int .u8 x3, .int .u8 x4, .int .u8 x5, .int .u8 x6, .int .u8 x7] 290 (0, 0))) : Rd W.heap.size W (.slice (some ⟨b, 0, none⟩) 8 8) [x0, x1, x2, x3, x4, x5, x6, x7] := by
  refine .inr ⟨b, 0, 8, rfl, by simp, by simp, by omega, (Array.getElem?_eq_some_iff.1 h).1, fun j hj => ?_⟩
  rw [Nat.zero_add, block_cell h j]
  simp at hj
  match j, hj with
  | 0, _ => rfl
  | 1, _ => rfl
  | 2, _ => rfl
  | 3, _ => rfl
  | 4, _ => rfl
  | 5, _ => rfl
  | 6, _ => rfl
  | 7, _ => rfl

set_option maxHeartbeats 4000000 in
theorem ofTwo_any (x0 x1 x2 x3 x4 x5 x6 x7 : Int) (w : World) (hBx : Mt.By [x0, x1, x2, x3, x4, x5, x6, x7]) :
    Calls Tryz.prog 171 #[.agg #[.int .u8 x0, .int .u8 x1, .int .u8 x2, .int .u8 x3, .int .u8 x4, .int .u8 x5, .int .u8 x6, .int .u8 x7]] w fun e w' => Below w.heap.size w w' ∧ e = .returned (.tuple #[.agg #[.int .u16 (getAt2 [x0, x1, x2, x3, x4, x5, x6, x7] 0), .int .u16 (getAt2 [x0, x1, x2, x3, x4, x5, x6, x7] 2)], .int .i64 0]) := by
  have hb0 : Below w.heap.size w ((w.alloc (.cells #[.int .u8 x0, .int .u8 x1, .int .u8 x2, .int .u8 x3, .int .u8 x4, .int .u8 x5, .int .u8 x6, .int .u8 x7] 290)).alloc (.cells #[.int .u16 0, .int .u16 0] 246)) := ((Below.refl _ _).alloc (Nat.le_refl _) _).alloc (by simp) _
  have p0 : ((w.alloc (.cells #[.int .u8 x0, .int .u8 x1, .int .u8 x2, .int .u8 x3, .int .u8 x4, .int .u8 x5, .int .u8 x6, .int .u8 x7] 290)).alloc (.cells #[.int .u16 0, .int .u16 0] 246)).heap[w.heap.size]? = some (.cells #[.int .u8 x0, .int .u8 x1, .int .u8 x2, .int .u8 x3, .int .u8 x4, .int .u8 x5, .int .u8 x6, .int .u8 x7] 290) := (Below.heap_alloc _ _ _ (by simp)).trans (heap_alloc_new w _)
  have r0 := heap_alloc_new (w.alloc (.cells #[.int .u8 x0, .int .u8 x1, .int .u8 x2, .int .u8 x3, .int .u8 x4, .int .u8 x5, .int .u8 x6, .int .u8 x7] 290)) (.cells #[.int .u16 0, .int .u16 0] 246)
  rw [World.size_alloc] at r0
  have P0 := hide p0
  have R0 := hide r0
  clear r0 p0
  have hB : Mt.By [x0, x1, x2, x3, x4, x5, x6, x7] := hBx
  go_enter Tryz.func171, Tryz.ntmps171
  go_upto_region 1 with fail
  generalize ((w.alloc (.cells #[.int .u8 x0, .int .u8 x1, .int .u8 x2, .int .u8 x3, .int .u8 x4, .int .u8 x5, .int .u8 x6, .int .u8 x7] 290)).alloc (.cells #[.int .u16 0, .int .u16 0] 246)) = w0 at *
  refine anyT_begin (R := But (fun b => b = w.heap.size + 1)) 7 rfl (by kernel_rfl) ?_
  have ld : Later w0 w0.drew := Later.drew w0
  have pWd := later_keep ld P0.out
  have rWd := later_keep ld R0.out
  generalize w0.drew = Wd at *
  refine anyT_val (But.pre _) 0 rfl (by kernel_rfl) (by kernel_rfl) (by kernel_rfl) (fun _ _ _ _ h => h) rfl ?_; apply Exists.intro; refine ⟨fun v1 hv1 => ?_, ?_⟩; (· (go_simp; rfl)); simp only [Act.put, List.setIfInBounds_toArray, List.set_cons_zero, List.set_cons_succ]
  refine anyT_val (But.pre _) 2 rfl (by kernel_rfl) (by kernel_rfl) (by kernel_rfl) (fun _ _ _ _ h => h) rfl ?_; apply Exists.intro; refine ⟨fun v1 hv1 => ?_, ?_⟩; (· (go_simp; rfl)); simp only [Act.put, List.setIfInBounds_toArray, List.set_cons_zero, List.set_cons_succ]
  refine anyT_one 1 rfl (by kernel_rfl) rfl ?_
  refine wp_enter 167 #[.slice (some ⟨w.heap.size, 0, none⟩) 8 8, .int .i64 0] (by go_simp) ?_
  refine (get16_at _ [x0, x1, x2, x3, x4, x5, x6, x7] hB 0 Wd (rd8 pWd)).mono ?_
  rintro e W1 ⟨rfl, nW1, eW1⟩
  have lW1 : Later Wd W1 := by rw [eW1]; exact below_draw (Later.refl Wd) nW1
  clear eW1
  have pW1 := later_keep lW1 pWd
  have rW1 := later_keep lW1 rWd
  refine ⟨But.of lW1, ?_⟩
  simp only [Act.put, List.setIfInBounds_toArray, List.set_cons_zero, List.set_cons_succ]
  refine anyT_one 3 rfl (by kernel_rfl) rfl ?_
  refine wp_enter 167 #[.slice (some ⟨w.heap.size, 0, none⟩) 8 8, .int .i64 2] (by go_simp) ?_
  refine (get16_at _ [x0, x1, x2, x3, x4, x5, x6, x7] hB 2 W1 (rd8 pW1)).mono ?_
  rintro e W2 ⟨rfl, nW2, eW2⟩
  have lW2 : Later W1 W2 := by rw [eW2]; exact below_draw (Later.refl W1) nW2
  clear eW2
  have pW2 := later_keep lW2 pW1
  have rW2 := later_keep lW2 rW1
  refine ⟨But.of lW2, ?_⟩
  simp only [Act.put, List.setIfInBounds_toArray, List.set_cons_zero, List.set_cons_succ]
  generalize hg0 : getAt2 [x0, x1, x2, x3, x4, x5, x6, x7] 0 = g0 at *
  have HG0 := hide hg0
  clear hg0
  generalize hg2 : getAt2 [x0, x1, x2, x3, x4, x5, x6, x7] 2 = g2 at *
  have HG2 := hide hg2
  clear hg2
  refine anyT_val (But.pre _) 4 rfl (by kernel_rfl) (by kernel_rfl) (by kernel_rfl) (fun _ _ _ _ h => h) rfl ?_; apply Exists.intro; refine ⟨fun v1 hv1 => ?_, ?_⟩; (· (go_simp; rfl)); simp only [Act.put, List.setIfInBounds_toArray, List.set_cons_zero, List.set_cons_succ]
  have rX := rW2
  have hwX : Below w.heap.size w W2 := hb0.trans ((ld.trans (lW1.trans lW2)).mono hb0.size)
  have kX := block_cell rX
  have fX := block_frozen rX
  refine anyT_one 5 rfl (by kernel_rfl) rfl ?_
  unfold Oper.wp
  go_simp
  generalize hV : (W2.setCell ⟨w.heap.size + 1, 0, none⟩ _).setCell ⟨w.heap.size + 1, 1, none⟩ _ = V
  have hV8 : V = putRow W2 (w.heap.size + 1) 0 [.int .u16 g0, .int .u16 g2] := hV.symm
  have hbV : But (fun b => b = w.heap.size + 1) W2 V := by rw [hV8]; exact putRow_but (E := fun b => b = w.heap.size + 1) (n := w.heap.size + 1) rfl _ _ _ _ (But.refl _ _)
  have pV := putRow_all ([.int .u16 g0, .int .u16 g2] : List Value) rX rfl
  rw [← hV8] at pV
  clear hV hV8 kX fX
  refine ⟨hbV, ?_⟩
  refine anyT_one 6 rfl (by kernel_rfl) rfl ?_
  unfold Oper.wp
  go_simp
  refine ⟨But.refl _ _, ?_⟩
  refine anyT_done (by kernel_rfl) ?_
  go_wp2_with fail
  have PV := block_cell pV
  have hwV : Below w.heap.size w V := hwX.trans (hbV.below hwX.size (fun k hk e => by omega))
  exact bodyPost_ret (v := .tuple #[.agg #[.int .u16 g0, .int .u16 g2], .int .i64 0]) (by simp [results, Tryz.results171, go_sem, PV]) rfl ⟨hwV, by rw [HG0.out, HG2.out]⟩

set_option maxHeartbeats 4000000 in
theorem ofEcho_any (x0 x1 x2 x3 x4 x5 x6 x7 : Int) (w : World) (hBx : Mt.By [x0, x1, x2, x3, x4, x5, x6, x7]) :
    Calls Tryz.prog 174 #[.agg #[.int .u8 x0, .int .u8 x1, .int .u8 x2, .int .u8 x3, .int .u8 x4, .int .u8 x5, .int .u8 x6, .int .u8 x7]] w fun e w' => Below w.heap.size w w' ∧ ((ecb x0 x1 = true ∧ e = .returned (.tuple #[.agg #[.int .u16 (getAt2 [x0, x1, x2, x3, x4, x5, x6, x7] 4), .int .u16 (getAt2 [x0, x1, x2, x3, x4, x5, x6, x7] 4)], .int .i64 0])) ∨ (ecb x0 x1 = false ∧ e = .returned (.tuple #[.agg #[.int .u16 0, .int .u16 0], .int .i64 12]))) := by
  have hb0 : Below w.heap.size w ((w.alloc (.cells #[.int .u8 x0, .int .u8 x1, .int .u8 x2, .int .u8 x3, .int .u8 x4, .int .u8 x5, .int .u8 x6, .int .u8 x7] 290)).alloc (.cells #[.int .u16 0, .int .u16 0] 246)) := ((Below.refl _ _).alloc (Nat.le_refl _) _).alloc (by simp) _
  have p0 : ((w.alloc (.cells #[.int .u8 x0, .int .u8 x1, .int .u8 x2, .int .u8 x3, .int .u8 x4, .int .u8 x5, .int .u8 x6, .int .u8 x7] 290)).alloc (.cells #[.int .u16 0, .int .u16 0] 246)).heap[w.heap.size]? = some (.cells #[.int .u8 x0, .int .u8 x1, .int .u8 x2, .int .u8 x3, .int .u8 x4, .int .u8 x5, .int .u8 x6, .int .u8 x7] 290) := (Below.heap_alloc _ _ _ (by simp)).trans (heap_alloc_new w _)
  have r0 := heap_alloc_new (w.alloc (.cells #[.int .u8 x0, .int .u8 x1, .int .u8 x2, .int .u8 x3, .int .u8 x4, .int .u8 x5, .int .u8 x6, .int .u8 x7] 290)) (.cells #[.int .u16 0, .int .u16 0] 246)
  rw [World.size_alloc] at r0
  have P0 := hide p0
  have R0 := hide r0
  clear r0 p0
  have hB : Mt.By [x0, x1, x2, x3, x4, x5, x6, x7] := hBx
  go_enter Tryz.func174, Tryz.ntmps174
  go_upto_region 1 with fail
  generalize ((w.alloc (.cells #[.int .u8 x0, .int .u8 x1, .int .u8 x2, .int .u8 x3, .int .u8 x4, .int .u8 x5, .int .u8 x6, .int .u8 x7] 290)).alloc (.cells #[.int .u16 0, .int .u16 0] 246)) = w0 at *
  refine anyT_begin (R := But (fun b => b = w.heap.size + 1)) 12 rfl (by kernel_rfl) ?_
  have ld : Later w0 w0.drew := Later.drew w0
  have pWd := later_keep ld P0.out
  have rWd := later_keep ld R0.out
  generalize w0.drew = Wd at *
  have ha : ∀ v1, But (fun b => b = w.heap.size + 1) Wd v1 → ∀ i, v1.cell? ⟨w.heap.size, i, none⟩ = #[Value.int .u8 x0, .int .u8 x1, .int .u8 x2, .int .u8 x3, .int .u8 x4, .int .u8 x5, .int .u8 x6, .int .u8 x7][i]? := fun v1 h => block_cell ((h.block w.heap.size (Array.getElem?_eq_some_iff.1 pWd).1 (by omega)).trans pWd)
  refine anyT_val (But.pre _) 0 rfl (by kernel_rfl) (by kernel_rfl) (by kernel_rfl) (fun _ _ _ _ h => h) rfl ?_; apply Exists.intro; refine ⟨fun v1 hv1 => ?_, ?_⟩; (· (go_simp; rfl)); simp only [Act.put, List.setIfInBounds_toArray, List.set_cons_zero, List.set_cons_succ]
  refine anyT_val (But.pre _) 1 rfl (by kernel_rfl) (by kernel_rfl) (by kernel_rfl) (fun _ _ _ _ h => h) rfl ?_; apply Exists.intro; refine ⟨fun v1 hv1 => ?_, ?_⟩; (· (go_simp; rfl)); simp only [Act.put, List.setIfInBounds_toArray, List.set_cons_zero, List.set_cons_succ]
  refine anyT_val (But.pre _) 2 rfl (by kernel_rfl) (by kernel_rfl) (by kernel_rfl) (fun _ _ _ _ h => h) rfl ?_; apply Exists.intro; refine ⟨fun v1 hv1 => ?_, ?_⟩; (· (go_simp; rfl)); simp only [Act.put, List.setIfInBounds_toArray, List.set_cons_zero, List.set_cons_succ]
  refine anyT_val (But.pre _) 3 rfl (by kernel_rfl) (by kernel_rfl) (by kernel_rfl) (fun _ _ _ _ h => h) rfl ?_; apply Exists.intro; refine ⟨fun v1 hv1 => ?_, ?_⟩; (· (go_simp; rfl)); simp only [Act.put, List.setIfInBounds_toArray, List.set_cons_zero, List.set_cons_succ]
  clear ha
  refine anyT_val (But.pre _) 4 rfl (by kernel_rfl) (by kernel_rfl) (by kernel_rfl) (fun _ _ _ _ h => h) rfl ?_; apply Exists.intro; refine ⟨fun v1 hv1 => ?_, ?_⟩; (· (go_simp; rfl)); simp only [Act.put, List.setIfInBounds_toArray, List.set_cons_zero, List.set_cons_succ]
  refine anyT_val (But.pre _) 5 rfl (by kernel_rfl) (by kernel_rfl) (by kernel_rfl) (fun _ _ _ _ h => h) rfl ?_; apply Exists.intro; refine ⟨fun v1 hv1 => ?_, ?_⟩; (· (go_simp; rfl)); simp only [Act.put, List.setIfInBounds_toArray, List.set_cons_zero, List.set_cons_succ]
  refine anyT_one 6 rfl (by kernel_rfl) rfl ?_
  refine wp_enter 167 #[.slice (some ⟨w.heap.size, 0, none⟩) 8 8, .int .i64 4] (by go_simp) ?_
  refine (get16_at _ [x0, x1, x2, x3, x4, x5, x6, x7] hB 4 Wd (rd8 pWd)).mono ?_
  rintro e W1 ⟨rfl, nW1, eW1⟩
  have lW1 : Later Wd W1 := by rw [eW1]; exact below_draw (Later.refl Wd) nW1
  clear eW1
  have pW1 := later_keep lW1 pWd
  have rW1 := later_keep lW1 rWd
  refine ⟨But.of lW1, ?_⟩
  simp only [Act.put, List.setIfInBounds_toArray, List.set_cons_zero, List.set_cons_succ]
  generalize hg4 : getAt2 [x0, x1, x2, x3, x4, x5, x6, x7] 4 = g4 at *
  have HG4 := hide hg4
  clear hg4
  refine anyT_one 7 rfl (by kernel_rfl) rfl ?_
  refine wp_enter 220 #[.agg #[.int .u8 x0, .int .u8 x1, .int .u32 0, .slice none 0 0], .int .u16 g4] (by go_simp) ?_
  refine (ofNumber_any x0 x1 0 g4 _ W1).mono ?_
  rintro e W2 ⟨hb2, ⟨he, rfl⟩ | ⟨he, rfl⟩⟩
  · have HE := hide he
    clear he
    have l2 : Later W1 W2 := hb2
    have rX := later_keep l2 rW1
    have hwX : Below w.heap.size w W2 := hb0.trans ((ld.trans (lW1.trans l2)).mono hb0.size)
    refine ⟨But.of l2, ?_⟩
    simp only [Act.put, List.setIfInBounds_toArray, List.set_cons_zero, List.set_cons_succ]
    refine anyT_val (But.pre _) 8 rfl (by kernel_rfl) (by kernel_rfl) (by kernel_rfl) (fun _ _ _ _ h => h) rfl ?_; apply Exists.intro; refine ⟨fun v1 hv1 => ?_, ?_⟩; (· (go_simp; rfl)); simp only [Act.put, List.setIfInBounds_toArray, List.set_cons_zero, List.set_cons_succ]
    refine anyT_val (But.pre _) 9 rfl (by kernel_rfl) (by kernel_rfl) (by kernel_rfl) (fun _ _ _ _ h => h) rfl ?_; apply Exists.intro; refine ⟨fun v1 hv1 => ?_, ?_⟩; (· (go_simp; rfl)); simp only [Act.put, List.setIfInBounds_toArray, List.set_cons_zero, List.set_cons_succ]
    have kX := block_cell rX
    have fX := block_frozen rX
    refine anyT_one 10 rfl (by kernel_rfl) rfl ?_
    unfold Oper.wp
    go_simp
    generalize hV : (W2.setCell ⟨w.heap.size + 1, 0, none⟩ _).setCell ⟨w.heap.size + 1, 1, none⟩ _ = V
    have hV8 : V = putRow W2 (w.heap.size + 1) 0 [.int .u16 g4, .int .u16 g4] := hV.symm
    have hbV : But (fun b => b = w.heap.size + 1) W2 V := by rw [hV8]; exact putRow_but (E := fun b => b = w.heap.size + 1) (n := w.heap.size + 1) rfl _ _ _ _ (But.refl _ _)
    have pV := putRow_all ([.int .u16 g4, .int .u16 g4] : List Value) rX rfl
    rw [← hV8] at pV
    clear hV hV8 kX fX
    refine ⟨hbV, ?_⟩
    refine anyT_one 11 rfl (by kernel_rfl) rfl ?_
    unfold Oper.wp
    go_simp
    refine ⟨But.refl _ _, ?_⟩
    refine anyT_done (by kernel_rfl) ?_
    go_wp2_with fail
    have PV := block_cell pV
    have hwV : Below w.heap.size w V := hwX.trans (hbV.below hwX.size (fun k hk e => by omega))
    exact bodyPost_ret (v := .tuple #[.agg #[.int .u16 g4, .int .u16 g4], .int .i64 0]) (by simp [results, Tryz.results174, go_sem, PV]) rfl ⟨hwV, .inl ⟨HE.out, by rw [HG4.out]⟩⟩
  · have HE := hide he
    clear he
    have l2 : Later W1 W2 := hb2
    have rX := later_keep l2 rW1
    have hwX : Below w.heap.size w W2 := hb0.trans ((ld.trans (lW1.trans l2)).mono hb0.size)
    refine ⟨But.of l2, ?_⟩
    simp only [Act.put, List.setIfInBounds_toArray, List.set_cons_zero, List.set_cons_succ]
    refine anyT_val (But.pre _) 8 rfl (by kernel_rfl) (by kernel_rfl) (by kernel_rfl) (fun _ _ _ _ h => h) rfl ?_; apply Exists.intro; refine ⟨fun v1 hv1 => ?_, ?_⟩; (· (go_simp; rfl)); simp only [Act.put, List.setIfInBounds_toArray, List.set_cons_zero, List.set_cons_succ]
    refine anyT_val (But.pre _) 9 rfl (by kernel_rfl) (by kernel_rfl) (by kernel_rfl) (fun _ _ _ _ h => h) rfl ?_; apply Exists.intro; refine ⟨fun v1 hv1 => ?_, ?_⟩; (· (go_simp; rfl)); simp only [Act.put, List.setIfInBounds_toArray, List.set_cons_zero, List.set_cons_succ]
    have kX := block_cell rX
    have fX := block_frozen rX
    refine anyT_one 10 rfl (by kernel_rfl) rfl ?_
    unfold Oper.wp
    go_simp
    generalize hV : (W2.setCell ⟨w.heap.size + 1, 0, none⟩ _).setCell ⟨w.heap.size + 1, 1, none⟩ _ = V
    have hV8 : V = putRow W2 (w.heap.size + 1) 0 [.int .u16 0, .int .u16 0] := hV.symm
    have hbV : But (fun b => b = w.heap.size + 1) W2 V := by rw [hV8]; exact putRow_but (E := fun b => b = w.heap.size + 1) (n := w.heap.size + 1) rfl _ _ _ _ (But.refl _ _)
    have pV := putRow_all ([.int .u16 0, .int .u16 0] : List Value) rX rfl
    rw [← hV8] at pV
    clear hV hV8 kX fX
    refine ⟨hbV, ?_⟩
    refine anyT_one 11 rfl (by kernel_rfl) rfl ?_
    unfold Oper.wp
    go_simp
    refine ⟨But.refl _ _, ?_⟩
    refine anyT_done (by kernel_rfl) ?_
    go_wp2_with fail
    have PV := block_cell pV
    have hwV : Below w.heap.size w V := hwX.trans (hbV.below hwX.size (fun k hk e => by omega))
    exact bodyPost_ret (v := .tuple #[.agg #[.int .u16 0, .int .u16 0], .int .i64 12]) (by simp [results, Tryz.results174, go_sem, PV]) rfl ⟨hwV, .inr ⟨HE.out, rfl⟩⟩

set_option maxHeartbeats 4000000 in
theorem ofBegin_any (x0 x1 x2 x3 x4 x5 x6 x7 : Int) (w : World) (hT : Tb w) (hBx : Mt.By [x0, x1, x2, x3, x4, x5, x6, x7]) :
    Calls Tryz.prog 176 #[.agg #[.int .u8 x0, .int .u8 x1, .int .u8 x2, .int .u8 x3, .int .u8 x4, .int .u8 x5, .int .u8 x6, .int .u8 x7]] w fun e w' => Below w.heap.size w w' ∧ ((pge 47 [x0, x1, x2, x3, x4, x5, x6, x7] = 4 ∧ e = .returned (.tuple #[.agg #[.int .u16 0, .int .u16 0], .int .i64 4])) ∨ (pge 47 [x0, x1, x2, x3, x4, x5, x6, x7] ≠ 4 ∧ e = .returned (.tuple #[.agg #[.int .u16 0, .int .u16 (getAt2 [x0, x1, x2, x3, x4, x5, x6, x7] 6)], .int .i64 0]))) := by
  have hb0 : Below w.heap.size w ((w.alloc (.cells #[.int .u8 x0, .int .u8 x1, .int .u8 x2, .int .u8 x3, .int .u8 x4, .int .u8 x5, .int .u8 x6, .int .u8 x7] 290)).alloc (.cells #[.int .u16 0, .int .u16 0] 246)) := ((Below.refl _ _).alloc (Nat.le_refl _) _).alloc (by simp) _
  have p0 : ((w.alloc (.cells #[.int .u8 x0, .int .u8 x1, .int .u8 x2, .int .u8 x3, .int .u8 x4, .int .u8 x5, .int .u8 x6, .int .u8 x7] 290)).alloc (.cells #[.int .u16 0, .int .u16 0] 246)).heap[w.heap.size]? = some (.cells #[.int .u8 x0, .int .u8 x1, .int .u8 x2, .int .u8 x3, .int .u8 x4, .int .u8 x5, .int .u8 x6, .int .u8 x7] 290) := (Below.heap_alloc _ _ _ (by simp)).trans (heap_alloc_new w _)
  have r0 := heap_alloc_new (w.alloc (.cells #[.int .u8 x0, .int .u8 x1, .int .u8 x2, .int .u8 x3, .int .u8 x4, .int .u8 x5, .int .u8 x6, .int .u8 x7] 290)) (.cells #[.int .u16 0, .int .u16 0] 246)
  rw [World.size_alloc] at r0
  have P0 := hide p0
  have R0 := hide r0
  clear r0 p0
  have hB : Mt.By [x0, x1, x2, x3, x4, x5, x6, x7] := hBx
  go_enter Tryz.func176, Tryz.ntmps176
  go_wp2_with fail
  generalize ((w.alloc (.cells #[.int .u8 x0, .int .u8 x1, .int .u8 x2, .int .u8 x3, .int .u8 x4, .int .u8 x5, .int .u8 x6, .int .u8 x7] 290)).alloc (.cells #[.int .u16 0, .int .u16 0] 246)) = w0 at *
  refine (parseGre_any 0 0 0 47 0 0 false _ _ [x0, x1, x2, x3, x4, x5, x6, x7] w0 (hT.below hb0 hT.pos) hB (rd8 P0.out) (by simp)).mono ?_
  rintro e w1 ⟨hb1, ⟨hf, rfl⟩ | ⟨hf, a1, c1, rfl, hO⟩⟩
  · rw [show zf.toArray = #[.int .u16 0, .bool false, .bool false, .int .u32 0, .int .u32 0, .slice none 0 0] from rfl]
    generalize hpg : pge 47 [x0, x1, x2, x3, x4, x5, x6, x7] = f at *
    have HPG : Hid (pge 47 [x0, x1, x2, x3, x4, x5, x6, x7] = f) := hpg
    clear hpg hf
    skip
    by_cases h4 : f = 4
    · skip
      have ne : (f == 4) = true := by simp [h4]
      have H4 := hide h4
      clear h4
      have l1 : Later w0 w1 := hb1
      have la : Later w1 (w1.alloc (.cells #[.int .u16 0, .bool false, .bool false, .int .u32 0, .int .u32 0, .slice none 0 0] 160)) := (Below.refl _ _).alloc (Nat.le_refl _) _
      have rX := later_keep (l1.trans la) R0.out
      have hwX := hb0.trans ((l1.trans la).mono hb0.size)
      have kX := block_cell rX
      have fX := block_frozen rX
      go_wp2_with fail
      clear ne
      generalize w1.alloc (.cells #[.int .u16 0, .bool false, .bool false, .int .u32 0, .int .u32 0, .slice none 0 0] 160) = W at *
      generalize hV : (W.setCell ⟨w.heap.size + 1, 0, none⟩ _).setCell ⟨w.heap.size + 1, 1, none⟩ _ = V
      have hV8 : V = putRow W (w.heap.size + 1) 0 [.int .u16 0, .int .u16 0] := hV.symm
      have hbV : But (fun b => b = w.heap.size + 1) W V := by rw [hV8]; exact putRow_but (E := fun b => b = w.heap.size + 1) (n := w.heap.size + 1) rfl _ _ _ _ (But.refl _ _)
      have pV := putRow_all ([.int .u16 0, .int .u16 0] : List Value) rX rfl
      rw [← hV8] at pV
      clear hV hV8 kX fX
      have PV := block_cell pV
      have hwV : Below w.heap.size w V := hwX.trans (hbV.below hwX.size (fun k hk e => by omega))
      exact bodyPost_ret (v := .tuple #[.agg #[.int .u16 0, .int .u16 0], .int .i64 f]) (by simp [results, Tryz.results176, go_sem, PV]) rfl ⟨hwV, .inl ⟨HPG.out.trans H4.out, by rw [H4.out]⟩⟩
    · have HN4 := hide h4
      have ne : (f == 4) = false := by simp [h4]
      clear h4
      have l1 : Later w0 w1 := hb1
      have la : Later w1 (w1.alloc (.cells #[.int .u16 0, .bool false, .bool false, .int .u32 0, .int .u32 0, .slice none 0 0] 160)) := (Below.refl _ _).alloc (Nat.le_refl _) _
      have pW := later_keep (l1.trans la) P0.out
      have rW := later_keep (l1.trans la) R0.out
      have hwW := hb0.trans ((l1.trans la).mono hb0.size)
      go_wp2_with fail
      clear ne
      generalize w1.alloc (.cells #[.int .u16 0, .bool false, .bool false, .int .u32 0, .int .u32 0, .slice none 0 0] 160) = W at *
      refine (get16_at _ [x0, x1, x2, x3, x4, x5, x6, x7] hB 6 W (rd8 pW)).mono ?_
      rintro e W2 ⟨rfl, n2, e2⟩
      have l2 : Later W W2 := by rw [e2]; exact below_draw (Later.refl W) n2
      clear e2
      have rX := later_keep l2 rW
      have hwX := hwW.trans (l2.mono hwW.size)
      generalize hg6 : getAt2 [x0, x1, x2, x3, x4, x5, x6, x7] 6 = g6 at *
      have HG6 := hide hg6
      clear hg6
      have kX := block_cell rX
      have fX := block_frozen rX
      go_wp2_with fail
      generalize hV : (W2.setCell ⟨w.heap.size + 1, 0, none⟩ _).setCell ⟨w.heap.size + 1, 1, none⟩ _ = V
      have hV8 : V = putRow W2 (w.heap.size + 1) 0 [.int .u16 0, .int .u16 g6] := hV.symm
      have hbV : But (fun b => b = w.heap.size + 1) W2 V := by rw [hV8]; exact putRow_but (E := fun b => b = w.heap.size + 1) (n := w.heap.size + 1) rfl _ _ _ _ (But.refl _ _)
      have pV := putRow_all ([.int .u16 0, .int .u16 g6] : List Value) rX rfl
      rw [← hV8] at pV
      clear hV hV8 kX fX
      have PV := block_cell pV
      have hwV : Below w.heap.size w V := hwX.trans (hbV.below hwX.size (fun k hk e => by omega))
      exact bodyPost_ret (v := .tuple #[.agg #[.int .u16 0, .int .u16 g6], .int .i64 0]) (by simp [results, Tryz.results176, go_sem, PV]) rfl ⟨hwV, .inr ⟨by rw [HPG.out]; exact HN4.out, by rw [HG6.out]⟩⟩
  · have HPG := hide hf
    clear hf hO
    have l1 : Later w0 w1 := hb1
    generalize hB1 : ghs (bgz [x0, x1, x2, x3, x4, x5, x6, x7]) = y1 at *
    generalize hB2 : gha (bgz [x0, x1, x2, x3, x4, x5, x6, x7]) = y2 at *
    generalize hB3 : gsq (bgz [x0, x1, x2, x3, x4, x5, x6, x7]) [x0, x1, x2, x3, x4, x5, x6, x7] = y3 at *
    generalize hB4 : gak (bgz [x0, x1, x2, x3, x4, x5, x6, x7]) [x0, x1, x2, x3, x4, x5, x6, x7] = y4 at *
    generalize hB5 : [x0, x1, x2, x3, x4, x5, x6, x7].length - ghd (bgz [x0, x1, x2, x3, x4, x5, x6, x7]) = y5 at *
    clear hB1 hB2 hB3 hB4 hB5
    have la : Later w1 (w1.alloc (.cells #[.int .u16 (getAt2 [x0, x1, x2, x3, x4, x5, x6, x7] 6), .bool y1, .bool y2, .int .u32 y3, .int .u32 y4, .slice a1 y5 c1] 160)) := (Below.refl _ _).alloc (Nat.le_refl _) _
    have pW := later_keep (l1.trans la) P0.out
    have rW := later_keep (l1.trans la) R0.out
    have hwW := hb0.trans ((l1.trans la).mono hb0.size)
    go_wp2_with fail
    generalize w1.alloc (.cells #[.int .u16 (getAt2 [x0, x1, x2, x3, x4, x5, x6, x7] 6), .bool y1, .bool y2, .int .u32 y3, .int .u32 y4, .slice a1 y5 c1] 160) = W at *
    refine (get16_at _ [x0, x1, x2, x3, x4, x5, x6, x7] hB 6 W (rd8 pW)).mono ?_
    rintro e W2 ⟨rfl, n2, e2⟩
    have l2 : Later W W2 := by rw [e2]; exact below_draw (Later.refl W) n2
    clear e2
    have rX := later_keep l2 rW
    have hwX := hwW.trans (l2.mono hwW.size)
    generalize hg6 : getAt2 [x0, x1, x2, x3, x4, x5, x6, x7] 6 = g6 at *
    have HG6 := hide hg6
    clear hg6
    have kX := block_cell rX
    have fX := block_frozen rX
    go_wp2_with fail
    generalize hV : (W2.setCell ⟨w.heap.size + 1, 0, none⟩ _).setCell ⟨w.heap.size + 1, 1, none⟩ _ = V
    have hV8 : V = putRow W2 (w.heap.size + 1) 0 [.int .u16 0, .int .u16 g6] := hV.symm
    have hbV : But (fun b => b = w.heap.size + 1) W2 V := by rw [hV8]; exact putRow_but (E := fun b => b = w.heap.size + 1) (n := w.heap.size + 1) rfl _ _ _ _ (But.refl _ _)
    have pV := putRow_all ([.int .u16 0, .int .u16 g6] : List Value) rX rfl
    rw [← hV8] at pV
    clear hV hV8 kX fX
    have PV := block_cell pV
    have hwV : Below w.heap.size w V := hwX.trans (hbV.below hwX.size (fun k hk e => by omega))
    exact bodyPost_ret (v := .tuple #[.agg #[.int .u16 0, .int .u16 g6], .int .i64 0]) (by simp [results, Tryz.results176, go_sem, PV]) rfl ⟨hwV, .inr ⟨by rw [HPG.out]; decide, by rw [HG6.out]⟩⟩
end Go.Proofs.YtohflohdbkamnaaGreatDoor

/- What read tells of a header that was built: the mathematics. -/
namespace Go.Proofs.YtohflohdbkamnaaGreatDoor
open Go.RowKit Go.Shelf
set_option maxRecDepth 100000
set_option linter.unusedVariables false
set_option linter.unusedSimpArgs false

set_option maxHeartbeats 1000000 in
theorem parse_any (sv : Value) (zs : List Int) (w : World) (hB : Mt.By zs) (hl : zs.length ≤ 225000000000000) (hI : Rd w.heap.size w sv zs) :
    Calls Tryz.prog 43 #[sv] w fun e w' => Below w.heap.size w w' ∧
      ((rde false zs ≠ 0 ∧ e = .returned (.tuple #[.agg zc.toArray, .int .i64 (rde false zs)])) ∨
       (rde false zs = 0 ∧ ∃ so sd, e = .returned (.tuple #[pkt zs so sd, .int .i64 0]) ∧ Ow w.heap.size w' so ((zs.take (hl4 zs).toNat).drop 20) ∧ Ow w.heap.size w' sd ((zs.take (ral false zs).toNat).drop (hl4 zs).toNat))) := by
  obtain ⟨a, cap, rfl, hl1, hm1⟩ := hI.slice
  have hb1 : Below w.heap.size w (w.alloc (.cells zc.toArray 78)) := (Below.refl _ _).alloc (Nat.le_refl _) _
  have p1 := heap_alloc_new w (.cells zc.toArray 78)
  have H := hide (read_any false _ zs (w.alloc (.cells zc.toArray 78)) hB hl ((hI.below hb1).mono (by simp)))
  go_enter Tryz.func43, Tryz.ntmps43
  go_wp2_with fail
  refine H.out.mono ?_
  rintro e w2 ⟨hb2, ⟨h, rfl⟩ | ⟨h, so, sd, rfl, hO1, hO2⟩⟩
  · have p2 := (hb2.block w.heap.size (by simp)).trans p1
    have P2 := block_cell p2
    have F2 := block_frozen p2
    go_wp2_with fail
    generalize hV : ((((((((w2.setCell ⟨w.heap.size, 0, none⟩ _).setCell ⟨w.heap.size, 1, none⟩ _).setCell ⟨w.heap.size, 2, none⟩ _).setCell ⟨w.heap.size, 3, none⟩ _).setCell ⟨w.heap.size, 4, none⟩ _).setCell ⟨w.heap.size, 5, none⟩ _).setCell ⟨w.heap.size, 6, none⟩ _).setCell ⟨w.heap.size, 7, none⟩ _).setCell ⟨w.heap.size, 8, none⟩ _ = V
    have hV9 : V = putRow w2 w.heap.size 0 zc := hV.symm
    have hb8 : But (fun b => b = w.heap.size) w2 V := by rw [hV9]; exact putRow_but (E := fun b => b = w.heap.size) (n := w.heap.size) rfl _ _ _ _ (But.refl _ _)
    have p8 := putRow_all zc p2 rfl
    rw [← hV9] at p8
    clear hV hV9 P2 F2 H
    have P8 := block_cell p8
    have hbW := (hb1.trans (hb2.mono (by simp))).trans (hb8.below (by have := hb2.size; simp at this; omega) (fun j h e => by omega))
    exact bodyPost_ret (v := .tuple #[.agg zc.toArray, .int .i64 (rde false zs)]) (by simp [results, Tryz.results43, go_sem, P8]) rfl ⟨hbW, .inl ⟨h, rfl⟩⟩
  · have p2 := (hb2.block w.heap.size (by simp)).trans p1
    have P2 := block_cell p2
    have F2 := block_frozen p2
    obtain ⟨aso, cso, rfl, _, _⟩ := hO1.slice
    obtain ⟨asd, csd, rfl, _, _⟩ := hO2.slice
    generalize hL1 : ((zs.take (hl4 zs).toNat).drop 20).length = lo at *
    generalize hL2 : ((zs.take (ral false zs).toNat).drop (hl4 zs).toNat).length = ld at *
    have HL1 := hide hL1
    have HL2 := hide hL2
    clear hL1 hL2
    unfold pkt
    go_wp2_with fail
    generalize hV : ((((((((w2.setCell ⟨w.heap.size, 0, none⟩ _).setCell ⟨w.heap.size, 1, none⟩ _).setCell ⟨w.heap.size, 2, none⟩ _).setCell ⟨w.heap.size, 3, none⟩ _).setCell ⟨w.heap.size, 4, none⟩ _).setCell ⟨w.heap.size, 5, none⟩ _).setCell ⟨w.heap.size, 6, none⟩ _).setCell ⟨w.heap.size, 7, none⟩ _).setCell ⟨w.heap.size, 8, none⟩ _ = V
    have hV9 : V = putRow w2 w.heap.size 0 [.int .u8 (zs[1]?.getD 0), .int .u16 (wat zs 4), .bool (decide (16384 ≤ wat zs 6 % 32768)), .int .u8 (zs[8]?.getD 0), .int .u8 (zs[9]?.getD 0), .int .u32 (wat4 zs 12), .int .u32 (wat4 zs 16), .slice aso lo cso, .slice asd ld csd] := hV.symm
    have hb8 : But (fun b => b = w.heap.size) w2 V := by rw [hV9]; exact putRow_but (E := fun b => b = w.heap.size) (n := w.heap.size) rfl _ _ _ _ (But.refl _ _)
    have p8 := putRow_all [.int .u8 (zs[1]?.getD 0), .int .u16 (wat zs 4), .bool (decide (16384 ≤ wat zs 6 % 32768)), .int .u8 (zs[8]?.getD 0), .int .u8 (zs[9]?.getD 0), .int .u32 (wat4 zs 12), .int .u32 (wat4 zs 16), .slice aso lo cso, .slice asd ld csd] p2 rfl
    rw [← hV9] at p8
    clear hV hV9 P2 F2 H
    have P8 := block_cell p8
    have hbW := (hb1.trans (hb2.mono (by simp))).trans (hb8.below (by have := hb2.size; simp at this; omega) (fun j h e => by omega))
    exact bodyPost_ret (v := .tuple #[pkt zs (.slice aso lo cso) (.slice asd ld csd), .int .i64 0]) (by simp [results, Tryz.results43, go_sem, P8, pkt]) rfl ⟨hbW, .inr ⟨h, _, _, rfl, (hO1.but hb8 (fun b h e => by simp at h; omega)).mono (by simp), (hO2.but hb8 (fun b h e => by simp at h; omega)).mono (by simp)⟩⟩

set_option maxHeartbeats 1000000 in
theorem quote_any (sv : Value) (zs : List Int) (w : World) (hB : Mt.By zs) (hl : zs.length ≤ 225000000000000) (hI : Rd w.heap.size w sv zs) :
    Calls Tryz.prog 179 #[sv] w fun e w' => Below w.heap.size w w' ∧
      ((rde true zs ≠ 0 ∧ e = .returned (.tuple #[.agg zc.toArray, .int .i64 (rde true zs)])) ∨
       (rde true zs = 0 ∧ ∃ so sd, e = .returned (.tuple #[pkt zs so sd, .int .i64 0]) ∧ Ow w.heap.size w' so ((zs.take (hl4 zs).toNat).drop 20) ∧ Ow w.heap.size w' sd ((zs.take (ral true zs).toNat).drop (hl4 zs).toNat))) := by
  obtain ⟨a, cap, rfl, hl1, hm1⟩ := hI.slice
  have hb1 : Below w.heap.size w (w.alloc (.cells zc.toArray 78)) := (Below.refl _ _).alloc (Nat.le_refl _) _
  have p1 := heap_alloc_new w (.cells zc.toArray 78)
  have H := hide (read_any true _ zs (w.alloc (.cells zc.toArray 78)) hB hl ((hI.below hb1).mono (by simp)))
  go_enter Tryz.func179, Tryz.ntmps179
  go_wp2_with fail
  refine H.out.mono ?_
  rintro e w2 ⟨hb2, ⟨h, rfl⟩ | ⟨h, so, sd, rfl, hO1, hO2⟩⟩
  · have p2 := (hb2.block w.heap.size (by simp)).trans p1
    have P2 := block_cell p2
    have F2 := block_frozen p2
    go_wp2_with fail
    generalize hV : ((((((((w2.setCell ⟨w.heap.size, 0, none⟩ _).setCell ⟨w.heap.size, 1, none⟩ _).setCell ⟨w.heap.size, 2, none⟩ _).setCell ⟨w.heap.size, 3, none⟩ _).setCell ⟨w.heap.size, 4, none⟩ _).setCell ⟨w.heap.size, 5, none⟩ _).setCell ⟨w.heap.size, 6, none⟩ _).setCell ⟨w.heap.size, 7, none⟩ _).setCell ⟨w.heap.size, 8, none⟩ _ = V
    have hV9 : V = putRow w2 w.heap.size 0 zc := hV.symm
    have hb8 : But (fun b => b = w.heap.size) w2 V := by rw [hV9]; exact putRow_but (E := fun b => b = w.heap.size) (n := w.heap.size) rfl _ _ _ _ (But.refl _ _)
    have p8 := putRow_all zc p2 rfl
    rw [← hV9] at p8
    clear hV hV9 P2 F2 H
    have P8 := block_cell p8
    have hbW := (hb1.trans (hb2.mono (by simp))).trans (hb8.below (by have := hb2.size; simp at this; omega) (fun j h e => by omega))
    exact bodyPost_ret (v := .tuple #[.agg zc.toArray, .int .i64 (rde true zs)]) (by simp [results, Tryz.results179, go_sem, P8]) rfl ⟨hbW, .inl ⟨h, rfl⟩⟩
  · have p2 := (hb2.block w.heap.size (by simp)).trans p1
    have P2 := block_cell p2
    have F2 := block_frozen p2
    obtain ⟨aso, cso, rfl, _, _⟩ := hO1.slice
    obtain ⟨asd, csd, rfl, _, _⟩ := hO2.slice
    generalize hL1 : ((zs.take (hl4 zs).toNat).drop 20).length = lo at *
    generalize hL2 : ((zs.take (ral true zs).toNat).drop (hl4 zs).toNat).length = ld at *
    have HL1 := hide hL1
    have HL2 := hide hL2
    clear hL1 hL2
    unfold pkt
    go_wp2_with fail
    generalize hV : ((((((((w2.setCell ⟨w.heap.size, 0, none⟩ _).setCell ⟨w.heap.size, 1, none⟩ _).setCell ⟨w.heap.size, 2, none⟩ _).setCell ⟨w.heap.size, 3, none⟩ _).setCell ⟨w.heap.size, 4, none⟩ _).setCell ⟨w.heap.size, 5, none⟩ _).setCell ⟨w.heap.size, 6, none⟩ _).setCell ⟨w.heap.size, 7, none⟩ _).setCell ⟨w.heap.size, 8, none⟩ _ = V
    have hV9 : V = putRow w2 w.heap.size 0 [.int .u8 (zs[1]?.getD 0), .int .u16 (wat zs 4), .bool (decide (16384 ≤ wat zs 6 % 32768)), .int .u8 (zs[8]?.getD 0), .int .u8 (zs[9]?.getD 0), .int .u32 (wat4 zs 12), .int .u32 (wat4 zs 16), .slice aso lo cso, .slice asd ld csd] := hV.symm
    have hb8 : But (fun b => b = w.heap.size) w2 V := by rw [hV9]; exact putRow_but (E := fun b => b = w.heap.size) (n := w.heap.size) rfl _ _ _ _ (But.refl _ _)
    have p8 := putRow_all [.int .u8 (zs[1]?.getD 0), .int .u16 (wat zs 4), .bool (decide (16384 ≤ wat zs 6 % 32768)), .int .u8 (zs[8]?.getD 0), .int .u8 (zs[9]?.getD 0), .int .u32 (wat4 zs 12), .int .u32 (wat4 zs 16), .slice aso lo cso, .slice asd ld csd] p2 rfl
    rw [← hV9] at p8
    clear hV hV9 P2 F2 H
    have P8 := block_cell p8
    have hbW := (hb1.trans (hb2.mono (by simp))).trans (hb8.below (by have := hb2.size; simp at this; omega) (fun j h e => by omega))
    exact bodyPost_ret (v := .tuple #[pkt zs (.slice aso lo cso) (.slice asd ld csd), .int .i64 0]) (by simp [results, Tryz.results179, go_sem, P8, pkt]) rfl ⟨hbW, .inr ⟨h, _, _, rfl, (hO1.but hb8 (fun b h e => by simp at h; omega)).mono (by simp), (hO2.but hb8 (fun b h e => by simp at h; omega)).mono (by simp)⟩⟩

section
variable (tos id : Int) (keep : Bool) (ttl proto src dst : Int) (zo zd : List Int) (all : Int)
end

end Go.Proofs.YtohflohdbkamnaaGreatDoor
