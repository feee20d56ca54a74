/- The walk of ExpectOnce. -/
import Derived.Test.YtbimdhapkbdmjaaEM
namespace Go.Proofs.Ytbimdhapkbdmjaa
open Go.RowKit Go.Shelf
set_option maxRecDepth 100000
set_option linter.unusedVariables false
set_option linter.unusedSimpArgs false

theorem fdb_parts {q : Ex → Bool} {l : List Ex} (h : fdb q l = true) : ∃ k, ∃ hk : k < l.length, l[k] = fnd q l ∧ q (fnd q l) = true := by
  unfold fdb at h
  obtain ⟨e, he⟩ := Option.isSome_iff_exists.1 h
  have h1 : fnd q l = e := by unfold fnd; rw [he]; rfl
  have h2 := List.mem_of_find?_eq_some he
  obtain ⟨k, hk, e2⟩ := List.getElem_of_mem h2
  exact ⟨k, hk, by rw [e2, h1], by rw [h1]; exact List.find?_some he⟩
theorem mtL_len {q : Ex → Bool} {l : List Ex} (hna : naL l) (h : fdb q l = true) : (mtL q l).length + 1 = l.length ∧ fnd q l ∉ mtL q l := by
  obtain ⟨k, hk, e, _⟩ := fdb_parts h
  rw [mtL_yes h]
  refine ⟨?_, by simp⟩
  rw [← e, er_eq l k hk hna.nodup, List.length_eraseIdx_of_lt hk]
  omega

set_option maxHeartbeats 8000000 in
theorem walk_ExpectOnce (w : World) (sv : Value) (ds : List Dx) (hI : RdX w.heap.size w sv ds) (hd : ∀ d ∈ ds, wfDx d) (x : Dx) (hx : wfDx x) :
    Calls Try.prog 5 #[sv, .agg (dxc x).toArray] w fun e w' => e = .returned (.bool true) ∧ Below w.heap.size w w' := by
  obtain ⟨aa, ca, rfl, ha1, ha2⟩ := hI.slice
  have lb0 : Later w (w.alloc (.cells (dxc x).toArray 30)) := (Below.refl _ _).alloc (Nat.le_refl _) _
  have c0 := heap_alloc_new w (.cells (dxc x).toArray 30)
  unfold dxc at lb0 c0 ⊢
  go_enter Try.func5, Try.ntmps5
  go_upto_region 1 with fail
  generalize w.alloc _ = w0 at *
  have hs0 : w.heap.size < w0.heap.size := (Array.getElem?_eq_some_iff.1 c0).1
  go_wp2_with fail
  refine (play12_any _ ds w0 w.heap.size lb0.size (hI.below lb0)).mono ?_
  rintro e w1 ⟨l1, a, b, l, rfl, hP, hok⟩
  have L1 := lb0.trans l1
  have c1 := later_keep l1 c0
  clear c0 l1
  go_wp2_with fail
  refine (live12_any w1).mono ?_
  rintro e w2 ⟨rfl, l2⟩
  have L2 := L1.trans l2
  have c2 := later_keep l2 c1
  obtain ⟨va, vb, hA, _, _⟩ := hP.later l2
  have hl32 := hok.1
  have hw0 : w0.heap.size ≤ w2.heap.size := by have h1 := hA.1; have := hA.blt; omega
  clear c1 l2 L1 hP
  have HLI := hide (fun W v l' (h : BL 54 w0.heap.size W a v l') (h2 : l'.length ≤ 1000) => list12_any w0.heap.size a v l' W h h2)
  go_wp2_with fail
  refine (HLI.out w2 va l hA (by omega)).mono ?_
  rintro e w3 ⟨l3, u3, rfl, hu3⟩
  obtain ⟨s3, k3, rfl⟩ := ownE_slice hu3
  have L3 := L2.trans l3
  have c3 := later_keep l3 c2
  have kc := block_cell c3
  clear hu3 c2
  have HPK := hide (peek12_any w0.heap.size a va l x.t x.now w3 (hA.later l3) (by omega))
  unfold tuc at HPK
  go_wp2_with fail
  refine HPK.out.mono ?_
  rintro e w4 ⟨rfl, l4⟩
  have L4 := L3.trans l4
  have c4 := later_keep l4 c3
  have hA4 := hA.later (l3.trans l4)
  clear HPK kc c3
  have HMT := hide (fun W (h : BL 54 w0.heap.size W a va l) (h2 : w0.heap.size ≤ W.heap.size) => match12_any w0.heap.size a va l x.t x.now W h h2 (by omega))
  have hlen := fun h => mtL_len (q := pkX x.t x.now) hok.2.1 h
  have hfit : fdb (pkX x.t x.now) l = true → pkX x.t x.now (fnd (pkX x.t x.now) l) = true := fun h => by obtain ⟨_, _, _, h2⟩ := fdb_parts h; exact h2
  have hmn : fdb (pkX x.t x.now) l = false → mtL (pkX x.t x.now) l = l := mtL_no
  have hml : (mtL (pkX x.t x.now) l).length ≤ 32 := (okX_mt (pkX x.t x.now) hok).1
  generalize fnd (pkX x.t x.now) l = r at *
  generalize fdb (pkX x.t x.now) l = q at *
  generalize mtL (pkX x.t x.now) l = ml at *
  unfold exc
  have la4 : Later w4 (w4.alloc (.cells #[.int .u8 r.pr, .int .u32 r.src, .int .u32 r.dst, .int .u16 r.sp, .int .u16 r.dp, .int .u32 r.host, .int .u16 r.hp, .int .i64 r.ms, .int .i64 r.dl] 26)) := (Below.refl _ _).alloc (Nat.le_refl _) _
  have e4 := heap_alloc_new w4 (.cells #[.int .u8 r.pr, .int .u32 r.src, .int .u32 r.dst, .int .u16 r.sp, .int .u16 r.dp, .int .u32 r.host, .int .u16 r.hp, .int .i64 r.ms, .int .i64 r.dl] 26)
  go_upto_region 6 with fail
  generalize w4.alloc _ = w5 at *
  have hs5 : w4.heap.size < w5.heap.size := (Array.getElem?_eq_some_iff.1 e4).1
  have hs4 : w0.heap.size ≤ w4.heap.size := by have h1 := hA4.1; have := hA4.blt; omega
  have L5 := L4.trans la4
  have c5 := later_keep la4 c4
  have kc := block_cell c5
  have hA5 := hA4.later la4
  unfold tuc at HMT
  go_wp2_with fail
  refine (HMT.out w5 hA5 (by omega)).mono ?_
  rintro e w6 ⟨rfl, v6, hA6, hb6, _⟩
  have hE : ∀ g, (g = a ∨ va.ownBlock = some g) → w0.heap.size ≤ g ∧ g < w4.heap.size := fun g h => by
    rcases h with rfl | h
    · exact ⟨hA4.1, hA4.blt⟩
    · exact hA4.lt h
  have hs6 := hb6.size
  have c6 := (hb6.block w.heap.size (Array.getElem?_eq_some_iff.1 c5).1 (fun e => by have := (hE _ e).1; omega)).trans c5
  have e6 := (hb6.block w4.heap.size (by omega) (fun e => by have := (hE _ e).2; omega)).trans e4
  have hL5 : w.heap.size ≤ w5.heap.size := L5.size
  have L6 : Below w.heap.size w w6 := Below.trans L5 (hb6.below hL5 (fun k hk e => by have := (hE _ e).1; omega))
  clear kc HMT c5
  unfold exc
  have la6 : Later w6 (w6.alloc (.cells #[.int .u8 r.pr, .int .u32 r.src, .int .u32 r.dst, .int .u16 r.sp, .int .u16 r.dp, .int .u32 r.host, .int .u16 r.hp, .int .i64 r.ms, .int .i64 r.dl] 26)) := (Below.refl _ _).alloc (Nat.le_refl _) _
  have f6 := heap_alloc_new w6 (.cells #[.int .u8 r.pr, .int .u32 r.src, .int .u32 r.dst, .int .u16 r.sp, .int .u16 r.dp, .int .u32 r.host, .int .u16 r.hp, .int .i64 r.ms, .int .i64 r.dl] 26)
  go_upto_region 7 with fail
  generalize w6.alloc _ = w7 at *
  have L7 : Below w.heap.size w w7 := L6.trans (la6.mono L6.size)
  have c7 := later_keep la6 c6
  have e7 := later_keep la6 e6
  have j1 := block_cell e7
  have j2 := block_cell f6
  have hA7 := hA6.later la6
  clear c6 e6 hb6 hA6
  cases q with
  | false =>
    obtain rfl := hmn rfl
    go_wp2_with fail
    refine (HLI.out w7 v6 ml hA7 (by omega)).mono ?_
    rintro e w8 ⟨l8, u8, rfl, hu8⟩
    obtain ⟨s8, k8, rfl⟩ := ownE_slice hu8
    clear j1 j2 hu8
    go_wp2_with fail
    go_ret
    exact ⟨by first | rfl | simp, L7.trans (l8.mono L7.size)⟩
  | true =>
    obtain ⟨hln, hnm⟩ := hlen rfl
    have hf := hfit rfl
    clear hlen hfit hmn
    go_wp2_with fail
    refine (HLI.out w7 v6 ml hA7 (by omega)).mono ?_
    rintro e w8 ⟨l8, u8, rfl, hu8⟩
    obtain ⟨s8, k8, rfl⟩ := ownE_slice hu8
    have L8 : Below w.heap.size w w8 := L7.trans (l8.mono L7.size)
    have c8 := later_keep l8 c7
    have f8 := later_keep l8 f6
    have HU := hide (ownE_rd hu8)
    have HNM := hide hnm
    have hmi : (ml.length : Int) ≤ 32 := by omega
    have hlni : (l.length : Int) - 1 = (ml.length : Int) := by omega
    have hli2 : (l.length : Int) ≤ 32 := by omega
    have hli3 : 1 ≤ (l.length : Int) := by omega
    clear j1 j2 hu8 hnm
    go_wp2_with fail
    go_loopw [14] (fun i wr => ∃ k : Nat, k ≤ ml.length ∧ i = .int .i64 (k : Int) ∧ Later w8 wr) (fun i _ => ml.length - (intOf i).toNat)
    case atStart => exact ⟨0, by omega, rfl, Later.refl _⟩
    case round =>
      obtain ⟨k, hk, rfl, lr⟩ := hrel
      have f9 := later_keep lr f8
      have c9 := later_keep lr c8
      by_cases hkl : k < ml.length
      · have hkl' : (k : Int) < ml.length := by omega
        obtain ⟨g, off, cp, e, _, _, hgn, hcs⟩ := (HU.out.below lr).cells (by omega)
        simp at e
        obtain ⟨rfl, rfl⟩ := e
        have hne : ml[k] ≠ r := fun e => HNM.out (e ▸ List.getElem_mem hkl)
        go_upto_region 13 with fail
        refine anyT_begin (R := But (fun _ => False)) 6 rfl (by kernel_rfl) ?_
        have ld : Later wr wr.drew := Later.drew wr
        have fd := later_keep ld f9
        have hcd : ∀ v1, But (fun _ => False) wr.drew v1 → ∀ i, i < 9 → v1.cell? ⟨g, off + k * 9 + i, none⟩ = (exc ml[k])[i]? := fun v1 hv i hi => (hv.cell (v := ((exc ml[k])[i]?).getD undef) (by
          have h1 := hcs k hkl i hi
          have : (exc ml[k])[i]?.isSome := by have : i < (exc ml[k]).length := hi; simp [List.getElem?_eq_getElem this]
          obtain ⟨y, hy⟩ := Option.isSome_iff_exists.1 this
          rw [hy] at h1 ⊢
          exact ld.cell h1) (fun h => h)).trans (by
          have : i < (exc ml[k]).length := hi
          simp [List.getElem?_eq_getElem this])
        clear hcs
        generalize ml[k] = y at *
        generalize wr.drew = Wd at *
        have hfd : ∀ v1, But (fun _ => False) Wd v1 → ∀ j, v1.cell? ⟨w6.heap.size, j, none⟩ = #[.int .u8 r.pr, .int .u32 r.src, .int .u32 r.dst, .int .u16 r.sp, .int .u16 r.dp, .int .u32 r.host, .int .u16 r.hp, .int .i64 r.ms, .int .i64 r.dl][j]? := fun v1 hv => block_cell ((hv.block w6.heap.size (Array.getElem?_eq_some_iff.1 fd).1 (fun h => h)).trans fd)
        have z0 := fun v1 hv => hcd v1 hv 0 (by omega)
        have z1 := fun v1 hv => hcd v1 hv 1 (by omega)
        have z2 := fun v1 hv => hcd v1 hv 2 (by omega)
        have z3 := fun v1 hv => hcd v1 hv 3 (by omega)
        have z4 := fun v1 hv => hcd v1 hv 4 (by omega)
        have z5 := fun v1 hv => hcd v1 hv 5 (by omega)
        have z6 := fun v1 hv => hcd v1 hv 6 (by omega)
        have z7 := fun v1 hv => hcd v1 hv 7 (by omega)
        have z8 := fun v1 hv => hcd v1 hv 8 (by omega)
        clear hcd
        simp only [exc, List.getElem?_cons_zero, List.getElem?_cons_succ, Nat.add_zero] at z0 z1 z2 z3 z4 z5 z6 z7 z8
        refine anyT_val (But.pre _) 0 rfl (by kernel_rfl) (by kernel_rfl) (by kernel_rfl) (fun _ _ _ _ h => h) rfl ?_; apply Exists.intro; refine ⟨fun v1 hv1 => ?_, ?_⟩; (· (go_simp; rfl)); simp only [Act.put, List.setIfInBounds_toArray, List.set_cons_zero, List.set_cons_succ]
        refine anyT_val (But.pre _) 1 rfl (by kernel_rfl) (by kernel_rfl) (by kernel_rfl) (fun _ _ _ _ h => h) rfl ?_; apply Exists.intro; refine ⟨fun v1 hv1 => ?_, ?_⟩; (· (go_simp; rfl)); simp only [Act.put, List.setIfInBounds_toArray, List.set_cons_zero, List.set_cons_succ]
        refine anyT_val (But.pre _) 2 rfl (by kernel_rfl) (by kernel_rfl) (by kernel_rfl) (fun _ _ _ _ h => h) rfl ?_; apply Exists.intro; refine ⟨fun v1 hv1 => ?_, ?_⟩; (· (go_simp; rfl)); simp only [Act.put, List.setIfInBounds_toArray, List.set_cons_zero, List.set_cons_succ]
        refine anyT_val (But.pre _) 3 rfl (by kernel_rfl) (by kernel_rfl) (by kernel_rfl) (fun _ _ _ _ h => h) rfl ?_; apply Exists.intro; refine ⟨fun v1 hv1 => ?_, ?_⟩; (· (go_simp; rfl)); simp only [Act.put, List.setIfInBounds_toArray, List.set_cons_zero, List.set_cons_succ]
        refine anyT_val (But.pre _) 4 rfl (by kernel_rfl) (by kernel_rfl) (by kernel_rfl) (fun _ _ _ _ h => h) rfl ?_; apply Exists.intro; refine ⟨fun v1 hv1 => ?_, ?_⟩; (· (go_simp; rfl)); simp only [Act.put, List.setIfInBounds_toArray, List.set_cons_zero, List.set_cons_succ]
        refine anyT_val (But.pre _) 5 rfl (by kernel_rfl) (by kernel_rfl) (by kernel_rfl) (fun _ _ _ _ h => h) rfl ⟨.bool (decide (y = r)), fun v1 hv1 => ?_, ?_⟩
        · clear z0 z1 z2 z3 z4 z5 z6 z7 z8 hfd
          obtain ⟨y1, y2, y3, y4, y5, y6, y7, y8, y9⟩ := y
          obtain ⟨r1, r2, r3, r4, r5, r6, r7, r8, r9⟩ := r
          have hne2 := hide hne
          go_simp
          intro q1 q2 q3 q4 q5 q6 q7 q8 q9
          exact hne2.out (by rw [q1, q2, q3, q4, q5, q6, q7, q8, q9])
        simp only [Act.put, List.setIfInBounds_toArray, List.set_cons_zero, List.set_cons_succ]
        rw [decide_eq_false hne]
        refine anyT_done (by kernel_rfl) ?_
        have lrr := lr.trans ld
        clear z0 z1 z2 z3 z4 z5 z6 z7 z8 hfd
        go_wp2_with fail
        go_roundw
        case rel => exact ⟨k + 1, by omega, by go_num, lrr⟩
        case measure => simp [intOf]; omega
      · obtain rfl : k = ml.length := by omega
        have kc := block_cell c9
        have kf := block_cell f9
        unfold pkX ftX at hf
        simp only [Bool.and_eq_true, Bool.or_eq_true, decide_eq_true_eq] at hf
        obtain ⟨⟨p1, p2, p3, p4⟩, p5⟩ := hf
        have L9 : Below w.heap.size w wr := L8.trans (lr.mono L8.size)
        by_cases p6 : r.src = 0
        · rw [← p1, ← p2, ← p3] at kf
          clear p1 p2 p3 p4
          go_wp2_with fail
          go_ret
          exact ⟨by first | rfl | (simp; done) | (simp; omega), L9⟩
        · have p7 : x.t.src = r.src := by rcases p4 with h | h; (· exact absurd h p6); (· exact h)
          rw [← p1, ← p2, ← p3, ← p7] at kf
          have p6' : ¬ x.t.src = 0 := by rw [p7]; exact p6
          clear p1 p2 p3 p4 p7 p6
          go_wp2_with fail
          go_ret
          exact ⟨by first | rfl | (simp; done) | (simp; omega), L9⟩
end Go.Proofs.Ytbimdhapkbdmjaa
