/- The document's expected flows: Peek, Match. -/
import Derived.Test.YtbimdhapkbdmjaaEJ
namespace Go.Proofs.Ytbimdhapkbdmjaa
open Go.RowKit Go.Shelf
set_option maxRecDepth 100000
set_option linter.unusedVariables false
set_option linter.unusedSimpArgs false

set_option maxHeartbeats 8000000 in
theorem rpeek12_any (base b : Nat) (v : Value) (l : List Ex) (t : Tu) (now : Int) (w : World) (hT : BL 64 base w b v l) (hl : l.length ≤ 1000) :
    Calls Try.prog 26 #[.pointer (some ⟨b, 0, none⟩), .agg (tuc t).toArray, .int .i64 now] w fun e w' => e = .returned (.tuple #[.agg (exc (fnd (pkX t now) l)).toArray, .bool (fdb (pkX t now) l)]) ∧ Later w w' := by
  obtain ⟨av, cv, rfl, hcl, hcm⟩ := (ownE_rd hT.2.2).slice
  obtain ⟨lb0, c0, c2⟩ := alloc2 w (.cells (tuc t).toArray 28) (.cells (exc zEx).toArray 26)
  have hli : (l.length : Int) ≤ 1000 := by omega
  have HFI := hide (fun W (h : Later w W) => rfind12_any base b _ l t now W (hT.later h) hl)
  have hbl := hT.blt
  go_enter Try.func26, Try.ntmps26
  have k0 := block_cell c0
  unfold tuc exc zEx at *
  simp only at *
  go_wp2_with fail
  generalize (w.alloc _).alloc _ = w0 at *
  refine (HFI.out w0 lb0).mono ?_
  rintro e w1 ⟨⟨k, hk, rfl, hq, hno⟩ | ⟨rfl, hno⟩, l1⟩
  · have hfi := find_at hk hq hno
    have L1 := lb0.trans l1
    have d2 := later_keep l1 c2
    have hT1 := hT.later L1
    obtain ⟨g, off, cp, e, _, _, hgn, hcs⟩ := (ownE_rd hT1.2.2).cells (by omega)
    simp at e
    obtain ⟨rfl, rfl⟩ := e
    have e0 := hcs k hk 0 (by omega)
    have e1 := hcs k hk 1 (by omega)
    have e2 := hcs k hk 2 (by omega)
    have e3 := hcs k hk 3 (by omega)
    have e4 := hcs k hk 4 (by omega)
    have e5 := hcs k hk 5 (by omega)
    have e6 := hcs k hk 6 (by omega)
    have e7 := hcs k hk 7 (by omega)
    have e8 := hcs k hk 8 (by omega)
    have HF1 : Hid (fnd (pkX t now) l = l[k]) := by show _ = _; unfold fnd; rw [hfi]; rfl
    have HF2 : Hid (fdb (pkX t now) l = true) := by show _ = _; unfold fdb; rw [hfi]; rfl
    have hki : (k : Int) < l.length := by omega
    clear hcs hfi hq hno HFI
    generalize l[k] = r at *
    simp only [exc, List.getElem?_cons_zero, List.getElem?_cons_succ, Nat.add_zero] at e0 e1 e2 e3 e4 e5 e6 e7 e8
    clear k0
    have k1 := block_cell hT1.2.1
    have K2 := block_cell d2
    have F2 := block_frozen d2
    go_wp2_with fail
    change bodyPost _ _ _ _ _ (putRow w1 (w.heap.size + 1) 0 (exc r))
    have v1 := putRow_all (exc r) d2 rfl
    have hbl : Below w.heap.size w1 (putRow w1 (w.heap.size + 1) 0 (exc r)) := (putRow_rb (rb := w.heap.size + 1) (exc r) w1).below L1.size (fun k hk e => by omega)
    generalize putRow w1 (w.heap.size + 1) 0 (exc r) = V at *
    have kk := block_cell v1
    simp only [exc] at kk
    refine bodyPost_ret (v := .tuple #[.agg #[.int .u8 r.pr, .int .u32 r.src, .int .u32 r.dst, .int .u16 r.sp, .int .u16 r.dp, .int .u32 r.host, .int .u16 r.hp, .int .i64 r.ms, .int .i64 r.dl], .bool true]) (by simp [results, Try.results26, go_sem, kk]) rfl ⟨by rw [HF1.out, HF2.out], Below.trans L1 hbl⟩
  · have hfi := find_no hno
    have L1 := lb0.trans l1
    have d2 := later_keep l1 c2
    have HF1 : Hid (fnd (pkX t now) l = zEx) := by show _ = _; unfold fnd; rw [hfi]; rfl
    have HF2 : Hid (fdb (pkX t now) l = false) := by show _ = _; unfold fdb; rw [hfi]; rfl
    clear hfi hno HFI k0
    have K2 := block_cell d2
    have F2 := block_frozen d2
    go_wp2_with fail
    change bodyPost _ _ _ _ _ (putRow w1 (w.heap.size + 1) 0 (exc zEx))
    have v1 := putRow_all (exc zEx) d2 rfl
    have hbl : Below w.heap.size w1 (putRow w1 (w.heap.size + 1) 0 (exc zEx)) := (putRow_rb (rb := w.heap.size + 1) (exc zEx) w1).below L1.size (fun k hk e => by omega)
    generalize putRow w1 (w.heap.size + 1) 0 (exc zEx) = V at *
    have kk := block_cell v1
    simp only [exc, zEx] at kk
    refine bodyPost_ret (v := .tuple #[.agg #[.int .u8 0, .int .u32 0, .int .u32 0, .int .u16 0, .int .u16 0, .int .u32 0, .int .u16 0, .int .i64 0, .int .i64 0], .bool false]) (by simp [results, Try.results26, go_sem, kk]) rfl ⟨by rw [HF1.out, HF2.out]; rfl, Below.trans L1 hbl⟩

theorem er_eq : ∀ (l : List Ex) (k : Nat) (h : k < l.length), l.Nodup → l.filter (fun x => !decide (x = l[k])) = l.eraseIdx k
  | a :: l, 0, _, hn => by
    have hn' := List.nodup_cons.1 hn
    simp only [List.getElem_cons_zero, List.eraseIdx_cons_zero, List.filter_cons, decide_true, Bool.not_true]
    rw [if_neg (by simp), List.filter_eq_self]
    intro x hx
    have : x ≠ a := fun e => hn'.1 (e ▸ hx)
    simp [this]
  | a :: l, k + 1, h, hn => by
    have hn' := List.nodup_cons.1 hn
    have hk : k < l.length := by simpa using h
    have ih := er_eq l k hk hn'.2
    have hne : a ≠ l[k] := fun e => hn'.1 (e ▸ List.getElem_mem hk)
    simp only [List.getElem_cons_succ, List.eraseIdx_cons_succ, List.filter_cons]
    rw [if_pos (by simp [hne]), ih]
theorem alX_self (x : Ex) : alX x x = true := by unfold alX; simp
/-- No two are alike. -/
def naL (l : List Ex) : Prop := l.Pairwise (fun x y => alX x y = false)
theorem naL.nodup {l : List Ex} (h : naL l) : l.Nodup := List.Pairwise.imp (fun {x y} h e => by subst e; rw [alX_self] at h; cases h) h

set_option maxHeartbeats 8000000 in
theorem rmatch12_any (base b : Nat) (v : Value) (l : List Ex) (t : Tu) (now : Int) (w : World) (hT : BL 64 base w b v l) (hl : l.length ≤ 1000) (hbs : base ≤ w.heap.size) (hna : naL l) :
    Calls Try.prog 41 #[.pointer (some ⟨b, 0, none⟩), .agg (tuc t).toArray, .int .i64 now] w fun e w' => e = .returned (.tuple #[.agg (exc (fnd (pkX t now) l)).toArray, .bool (fdb (pkX t now) l)]) ∧ BLq 64 base w w' b v (mtL (pkX t now) l) := by
  obtain ⟨av, cv, rfl, hcl, hcm⟩ := (ownE_rd hT.2.2).slice
  obtain ⟨lb0, c0, c2⟩ := alloc2 w (.cells (tuc t).toArray 28) (.cells (exc zEx).toArray 26)
  have hli : (l.length : Int) ≤ 1000 := by omega
  have HFI := hide (fun W (h : Later w W) => rfind12_any base b _ l t now W (hT.later h) hl)
  have hbl := hT.blt
  go_enter Try.func41, Try.ntmps41
  have k0 := block_cell c0
  unfold tuc exc zEx at *
  simp only at *
  go_wp2_with fail
  generalize (w.alloc _).alloc _ = w0 at *
  refine (HFI.out w0 lb0).mono ?_
  rintro e w1 ⟨⟨k, hk, rfl, hq, hno⟩ | ⟨rfl, hno⟩, l1⟩
  · have hfi := find_at hk hq hno
    have L1 := lb0.trans l1
    have d2 := later_keep l1 c2
    have hT1 := hT.later L1
    obtain ⟨g, off, cp, e, _, _, hgn, hcs⟩ := (ownE_rd hT1.2.2).cells (by omega)
    simp at e
    obtain ⟨rfl, rfl⟩ := e
    have e0 := hcs k hk 0 (by omega)
    have e1 := hcs k hk 1 (by omega)
    have e2 := hcs k hk 2 (by omega)
    have e3 := hcs k hk 3 (by omega)
    have e4 := hcs k hk 4 (by omega)
    have e5 := hcs k hk 5 (by omega)
    have e6 := hcs k hk 6 (by omega)
    have e7 := hcs k hk 7 (by omega)
    have e8 := hcs k hk 8 (by omega)
    have HF1 : Hid (fnd (pkX t now) l = l[k]) := by show _ = _; unfold fnd; rw [hfi]; rfl
    have HF2 : Hid (fdb (pkX t now) l = true) := by show _ = _; unfold fdb; rw [hfi]; rfl
    have hki : (k : Int) < l.length := by omega
    have HML : Hid (mtL (pkX t now) l = l.take k ++ l.drop (k + 1)) := by
      show _ = _
      rw [mtL_yes HF2.out, HF1.out, er_eq l k hk hna.nodup, List.eraseIdx_eq_take_drop_succ]
    clear hcs hfi hq hno HFI
    generalize l[k] = r at *
    simp only [exc, List.getElem?_cons_zero, List.getElem?_cons_succ, Nat.add_zero] at e0 e1 e2 e3 e4 e5 e6 e7 e8
    clear k0
    have k1 := block_cell hT1.2.1
    have hkn := hk
    have la : Later w1 (w1.alloc (.cells #[.int .u8 r.pr, .int .u32 r.src, .int .u32 r.dst, .int .u16 r.sp, .int .u16 r.dp, .int .u32 r.host, .int .u16 r.hp, .int .i64 r.ms, .int .i64 r.dl] 26)) := (Below.refl _ _).alloc (Nat.le_refl _) _
    have cB := heap_alloc_new w1 (.cells #[.int .u8 r.pr, .int .u32 r.src, .int .u32 r.dst, .int .u16 r.sp, .int .u16 r.dp, .int .u32 r.host, .int .u16 r.hp, .int .i64 r.ms, .int .i64 r.dl] 26)
    have d3 := later_keep la d2
    have L2 := L1.trans la
    have hT2 := hT1.later la
    have hB1 : w.heap.size + 1 < w1.heap.size := (Array.getElem?_eq_some_iff.1 d2).1
    go_upto_region 6 with fail
    generalize w1.alloc (.cells #[.int .u8 r.pr, .int .u32 r.src, .int .u32 r.dst, .int .u16 r.sp, .int .u16 r.dp, .int .u32 r.host, .int .u16 r.hp, .int .i64 r.ms, .int .i64 r.dl] 26) = w2 at *
    clear k1 e0 e1 e2 e3 e4 e5 e6 e7 e8
    have i1 : (k : Int) ≤ cv := by omega
    have i2 : (k : Int) + 1 ≤ l.length := by omega
    have i3 : (l.length : Int) ≤ cv := by omega
    have i4 : ¬ cv = 0 := by omega
    have i5 : k ≤ cv := by omega
    have i6 : k + 1 ≤ l.length := by omega
    refine anyT_begin (R := But (fun x => w.heap.size ≤ x)) 17 rfl (by kernel_rfl) ?_
    have ld : Later w2 w2.drew := Later.drew w2
    have LD := L2.trans ld
    have cD := later_keep ld cB
    have dD := later_keep ld d3
    have hTd := hT2.later ld
    generalize w2.drew = Wd at *
    have hbd : ∀ v1, But (fun x => w.heap.size ≤ x) Wd v1 → ∀ j, v1.cell? ⟨b, j, none⟩ = #[Value.slice (some ⟨g, off, none⟩) l.length cv][j]? := fun v1 hv => block_cell ((hv.block b hTd.blt (by omega)).trans hTd.2.1)
    have hwr : IntKind.i64.wrap ((k : Int) + 1) = (k : Int) + 1 := by simp [IntKind.wrap, IntKind.bits, IntKind.signed]; omega
    have HWR := hide hwr
    clear hwr
    refine anyT_val (But.pre _) 0 rfl (by kernel_rfl) (by kernel_rfl) (by kernel_rfl) (fun _ _ _ _ h => h) rfl ?_; apply Exists.intro; refine ⟨fun v1 hv1 => ?_, ?_⟩; (· (go_simp; rfl)); simp only [Act.put, List.setIfInBounds_toArray, List.set_cons_zero, List.set_cons_succ]
    refine anyT_val (But.pre _) 1 rfl (by kernel_rfl) (by kernel_rfl) (by kernel_rfl) (fun _ _ _ _ h => h) rfl ?_; apply Exists.intro; refine ⟨fun v1 hv1 => ?_, ?_⟩; (· (go_simp; rfl)); simp only [Act.put, List.setIfInBounds_toArray, List.set_cons_zero, List.set_cons_succ]
    refine anyT_val (But.pre _) 2 rfl (by kernel_rfl) (by kernel_rfl) (by kernel_rfl) (fun _ _ _ _ h => h) rfl ?_; apply Exists.intro; refine ⟨fun v1 hv1 => ?_, ?_⟩; (· (go_simp; rfl)); simp only [Act.put, List.setIfInBounds_toArray, List.set_cons_zero, List.set_cons_succ]
    refine anyT_val (But.pre _) 3 rfl (by kernel_rfl) (by kernel_rfl) (by kernel_rfl) (fun _ _ _ _ h => h) rfl ?_; apply Exists.intro; refine ⟨fun v1 hv1 => ?_, ?_⟩; (· (go_simp; rfl)); simp only [Act.put, List.setIfInBounds_toArray, List.set_cons_zero, List.set_cons_succ]
    refine anyT_val (But.pre _) 4 rfl (by kernel_rfl) (by kernel_rfl) (by kernel_rfl) (fun _ _ _ _ h => h) rfl ?_; apply Exists.intro; refine ⟨fun v1 hv1 => ?_, ?_⟩; (· (go_simp; rfl)); simp only [Act.put, List.setIfInBounds_toArray, List.set_cons_zero, List.set_cons_succ]
    refine anyT_val (But.pre _) 5 rfl (by kernel_rfl) (by kernel_rfl) (by kernel_rfl) (fun _ _ _ _ h => h) rfl ?_; apply Exists.intro; refine ⟨fun v1 hv1 => ?_, ?_⟩; (· (go_simp; rfl)); simp only [Act.put, List.setIfInBounds_toArray, List.set_cons_zero, List.set_cons_succ]
    refine anyT_val (But.pre _) 6 rfl (by kernel_rfl) (by kernel_rfl) (by kernel_rfl) (fun _ _ _ _ h => h) rfl ⟨sliced (some ⟨g, off, none⟩) 0 k cv 9, fun v1 hv1 => by go_simp; all_goals first | rfl | (intro _; omega), ?_⟩
    simp only [Act.put, List.setIfInBounds_toArray, List.set_cons_zero, List.set_cons_succ]
    refine anyT_val (But.pre _) 8 rfl (by kernel_rfl) (by kernel_rfl) (by kernel_rfl) (fun _ _ _ _ h => h) rfl ?_; apply Exists.intro; refine ⟨fun v1 hv1 => ?_, ?_⟩; (· (go_simp; rfl)); simp only [Act.put, List.setIfInBounds_toArray, List.set_cons_zero, List.set_cons_succ]
    refine anyT_val (But.pre _) 9 rfl (by kernel_rfl) (by kernel_rfl) (by kernel_rfl) (fun _ _ _ _ h => h) rfl ?_; apply Exists.intro; refine ⟨fun v1 hv1 => ?_, ?_⟩; (· (go_simp; rfl)); simp only [Act.put, List.setIfInBounds_toArray, List.set_cons_zero, List.set_cons_succ]
    refine anyT_val (But.pre _) 10 rfl (by kernel_rfl) (by kernel_rfl) (by kernel_rfl) (fun _ _ _ _ h => h) rfl ?_; apply Exists.intro; refine ⟨fun v1 hv1 => ?_, ?_⟩; (· (go_simp; rfl)); simp only [Act.put, List.setIfInBounds_toArray, List.set_cons_zero, List.set_cons_succ]
    refine anyT_val (But.pre _) 11 rfl (by kernel_rfl) (by kernel_rfl) (by kernel_rfl) (fun _ _ _ _ h => h) rfl ?_; apply Exists.intro; refine ⟨fun v1 hv1 => ?_, ?_⟩; (· (go_simp; rfl)); simp only [Act.put, List.setIfInBounds_toArray, List.set_cons_zero, List.set_cons_succ]
    refine anyT_val (But.pre _) 12 rfl (by kernel_rfl) (by kernel_rfl) (by kernel_rfl) (fun _ _ _ _ h => h) rfl ?_; apply Exists.intro; refine ⟨fun v1 hv1 => ?_, ?_⟩; (· (go_simp; rfl)); simp only [Act.put, List.setIfInBounds_toArray, List.set_cons_zero, List.set_cons_succ]
    refine anyT_val (But.pre _) 13 rfl (by kernel_rfl) (by kernel_rfl) (by kernel_rfl) (fun _ _ _ _ h => h) rfl ⟨.int .i64 ((k : Int) + 1), fun v1 hv1 => by go_simp; rw [HWR.out], ?_⟩
    simp only [Act.put, List.setIfInBounds_toArray, List.set_cons_zero, List.set_cons_succ]
    refine anyT_val (But.pre _) 14 rfl (by kernel_rfl) (by kernel_rfl) (by kernel_rfl) (fun _ _ _ _ h => h) rfl ⟨sliced (some ⟨g, off, none⟩) (k + 1) l.length cv 9, fun v1 hv1 => by go_simp; all_goals first | rfl | (intro _; omega), ?_⟩
    simp only [Act.put, List.setIfInBounds_toArray, List.set_cons_zero, List.set_cons_succ]
    clear hbd
    have hr0 : Wd.ownsRow Wd.heap.size 26 9 (.slice none 0 0) ([] : List Ex).length (exs []) := ⟨rfl, .inl ⟨rfl, rfl⟩⟩
    have hrd := ownE_rd hTd.2.2
    obtain ⟨v1, W1, q1, q2, q3, q4⟩ := appE Wd 42 Wd.heap.size Wd.heap.size (.slice none 0 0) [] _ (l.take k) hr0 (hrd.upto k (by omega)) (Nat.le_refl _) (by simp; omega)
    have l3 : Later Wd W1 := ⟨q3.os, q3.tape, q3.output, q3.size, fun k hk => q3.block k hk (fun e => by cases e)⟩
    have L3 := LD.trans l3
    refine anyT_one 7 rfl (by kernel_rfl) rfl ?_
    refine wp_app (.tmp 25) (.tmp 31) 42 rfl _ _ rfl rfl _ W1 q1 ⟨But.of l3, ?_⟩
    simp only [Act.put, List.setIfInBounds_toArray, List.set_cons_zero, List.set_cons_succ]
    have hrd3 := ownE_rd (hTd.later l3).2.2
    obtain ⟨v2, W2, p1, p2, p3, p4⟩ := appE W1 42 Wd.heap.size W1.heap.size v1 ([] ++ l.take k) _ (l.drop (k + 1)) q2 (hrd3.from (k + 1) (by omega)) l3.size (by simp; omega)
    have f1 : ∀ x, v1.ownBlock = some x → Wd.heap.size ≤ x := fun x hx => (ownE_lt q2 hx).1
    have hwd : w.heap.size ≤ Wd.heap.size := LD.size
    have l4 : Later Wd W2 := Below.trans l3 ⟨p3.os, p3.tape, p3.output, p3.size, fun k hk => p3.block k (by have := l3.size; omega) (fun e => by have := f1 k e.symm; omega)⟩
    rw [List.nil_append] at p2
    generalize hnl : l.take k ++ l.drop (k + 1) = nl at *
    clear hnl
    obtain ⟨a2, c2, rfl⟩ := ownE_slice p2
    refine anyT_one 15 rfl (by kernel_rfl) rfl ?_
    refine wp_app (.tmp 32) (.tmp 39) 42 rfl _ _ rfl rfl _ W2 p1 ⟨⟨p3.os, p3.tape, p3.output, p3.size, fun k hk he => p3.block k hk (fun e => he (Nat.le_trans hwd (f1 k e.symm)))⟩, ?_⟩
    simp only [Act.put, List.setIfInBounds_toArray, List.set_cons_zero, List.set_cons_succ]
    generalize sliced (some ⟨g, off, none⟩) (k + 1) l.length cv 9 = sv2
    generalize sliced (some ⟨g, off, none⟩) 0 k cv 9 = sv1
    refine anyT_one 16 rfl (by kernel_rfl) rfl ?_
    unfold Oper.wp
    go_simp
    refine ⟨But.refl _ _, ?_⟩
    refine anyT_done (by kernel_rfl) ?_
    have cE := later_keep l4 cD
    have dE := later_keep l4 dD
    have hbE := later_keep l4 hTd.2.1
    have L4 := LD.trans l4
    have P2 := hide p2
    have hs1 : w1.heap.size < Wd.heap.size := (Array.getElem?_eq_some_iff.1 cD).1
    clear p2 q2 p1 q1 q4 p4 f1 hr0 hrd hrd3 p3 q3 cD dD hTd l3 L3 LD ld hT2 L2
    have kz := block_cell hbE
    have fz := block_frozen hbE
    go_upto_region 8 with fail
    have hb7 : But (fun x => x = b) W2 (W2.setCell ⟨b, 0, none⟩ (.slice a2 nl.length c2)) := (But.refl (fun x => x = b) _).setCell (p := ⟨b, 0, none⟩) rfl _
    have h7 : (W2.setCell ⟨b, 0, none⟩ (.slice a2 nl.length c2)).heap[b]? = some (.cells #[.slice a2 nl.length c2] 64 (0, 0)) := by simpa using heap_set1 hbE 0 (.slice a2 nl.length c2)
    have hW2 : Wd.heap.size ≤ W2.heap.size := l4.size
    have cF := (hb7.block w1.heap.size (by omega) (by omega)).trans cE
    have dF := (hb7.block (w.heap.size + 1) (by omega) (by omega)).trans dE
    have hO7 := ownE_but P2.out hb7 (fun g hg e => by have := (ownE_lt P2.out hg).1; omega)
    have HO7 := hide hO7
    clear cE dE kz fz hO7 P2
    generalize W2.setCell _ _ = W3 at *
    have kF := block_cell cF
    have K2 := block_cell dF
    have F2 := block_frozen dF
    go_wp2_with fail
    change bodyPost _ _ _ _ _ (putRow W3 (w.heap.size + 1) 0 (exc r))
    have v1' := putRow_all (exc r) dF rfl
    have hbt : But (fun g => g = w.heap.size + 1) W3 (putRow W3 (w.heap.size + 1) 0 (exc r)) := putRow_rb (rb := w.heap.size + 1) (exc r) W3
    generalize putRow W3 (w.heap.size + 1) 0 (exc r) = V at *
    have kk := block_cell v1'
    simp only [exc] at kk
    refine bodyPost_ret (v := .tuple #[.agg #[.int .u8 r.pr, .int .u32 r.src, .int .u32 r.dst, .int .u16 r.sp, .int .u16 r.dp, .int .u32 r.host, .int .u16 r.hp, .int .i64 r.ms, .int .i64 r.dl], .bool true]) (by simp [results, Try.results41, go_sem, kk]) rfl ⟨by rw [HF1.out, HF2.out], ?_⟩
    rw [HML.out]
    have hs7 := hb7.size
    refine ⟨.slice a2 nl.length c2, ⟨hT.1, (hbt.block b (by omega) (by omega)).trans h7, BL.mono' (t := 0) (b := 0) (ownE_but HO7.out hbt (fun g hg e => by have := (ownE_lt HO7.out hg).1; omega)) (by omega)⟩, ?_, .inr (fun g hg => by have := (ownE_lt HO7.out hg).1; omega)⟩
    have hbq : Below w.heap.size w W2 := L4
    exact ⟨hbt.os.trans (hb7.os.trans hbq.os), hbt.tape.trans (hb7.tape.trans hbq.tape), hbt.output.trans (hb7.output.trans hbq.output), Nat.le_trans hbq.size (Nat.le_trans hb7.size hbt.size), fun k hk he => by
      rw [hbt.block k (by omega) (by omega), hb7.block k (by omega) (fun e => he (.inl e)), hbq.block k hk]⟩
  · have hfi := find_no hno
    have L1 := lb0.trans l1
    have d2 := later_keep l1 c2
    have HF1 : Hid (fnd (pkX t now) l = zEx) := by show _ = _; unfold fnd; rw [hfi]; rfl
    have HF2 : Hid (fdb (pkX t now) l = false) := by show _ = _; unfold fdb; rw [hfi]; rfl
    clear hfi hno HFI k0
    have K2 := block_cell d2
    have F2 := block_frozen d2
    go_wp2_with fail
    change bodyPost _ _ _ _ _ (putRow w1 (w.heap.size + 1) 0 (exc zEx))
    have v1 := putRow_all (exc zEx) d2 rfl
    have hbl : Below w.heap.size w1 (putRow w1 (w.heap.size + 1) 0 (exc zEx)) := (putRow_rb (rb := w.heap.size + 1) (exc zEx) w1).below L1.size (fun k hk e => by omega)
    generalize putRow w1 (w.heap.size + 1) 0 (exc zEx) = V at *
    have kk := block_cell v1
    simp only [exc, zEx] at kk
    refine bodyPost_ret (v := .tuple #[.agg #[.int .u8 0, .int .u32 0, .int .u32 0, .int .u16 0, .int .u16 0, .int .u32 0, .int .u16 0, .int .i64 0, .int .i64 0], .bool false]) (by simp [results, Try.results41, go_sem, kk]) rfl ⟨by rw [HF1.out, HF2.out]; rfl, by rw [mtL_no HF2.out]; exact BLq.same hT (Below.trans L1 hbl)⟩
end Go.Proofs.Ytbimdhapkbdmjaa
