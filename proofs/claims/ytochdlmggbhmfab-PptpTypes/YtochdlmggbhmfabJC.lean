/- Package pptp: what a message's bytes say, and bytes with another call. -/
import Derived.Test.YtochdlmggbhmfabJB
namespace Go.Proofs.Ytochdlmggbhmfab
open Go.RowKit Go.Shelf
set_option maxRecDepth 100000
set_option linter.unusedVariables false
set_option linter.unusedSimpArgs false

/-- What a message's bytes say: its type, how it ended. -/
def pmT (zs : List Int) : Int := if lye zs = 0 then getAt2 zs 8 else 0
def pmR (zs : List Int) : Int := if lye zs = 0 ∧ getAt2 zs 8 = 8 then zs[16]?.getD 0 else 0
abbrev msg (t c p r : Int) : Value := .agg #[.int .i64 t, .int .u16 c, .int .u16 p, .int .u8 r]

theorem getAt2_neg (zs : List Int) : getAt2 zs (-1) = 0 := by unfold getAt2; rw [if_neg (by omega)]
theorem lyC_no {zs : List Int} (h : lye zs ≠ 0) : lyC zs = -1 := by unfold lyC; rw [if_neg h]
theorem lyP_no {zs : List Int} (h : lye zs ≠ 0) : lyP zs = -1 := by unfold lyP; rw [if_neg h]

set_option maxHeartbeats 8000000 in
theorem parse15_any {n₀ : Nat} (sv : Value) (zs : List Int) (hB : Mt.By zs) (w : World) (hn : n₀ ≤ w.heap.size) (hI : Rd n₀ w sv zs) :
    Calls Try.prog 5 #[sv] w fun e w' => e = .returned (.tuple #[msg (pmT zs) (getAt2 zs (lyC zs)) (getAt2 zs (lyP zs)) (pmR zs), .int .i64 (lye zs)]) ∧ Later w w' := by
  obtain ⟨a, cap, rfl, hl1, hm1⟩ := hI.slice
  have hb0 : Later w (w.alloc (.cells #[.int .i64 0, .int .u16 0, .int .u16 0, .int .u8 0] 27)) := (Below.refl _ _).alloc (Nat.le_refl _) _
  have r0 := heap_alloc_new w (.cells #[.int .i64 0, .int .u16 0, .int .u16 0, .int .u8 0] 27)
  have R0 := hide r0
  clear r0
  go_enter Try.func5, Try.ntmps5
  go_upto_region 1 with fail
  generalize w.alloc _ = W0 at *
  have HL : Hid (Calls Try.prog 8 #[.slice a zs.length cap] W0 fun e w' => e = .returned (.tuple #[.agg #[.int .i64 (lyS zs), .int .i64 (lyC zs), .int .i64 (lyP zs)], .int .i64 (lye zs)]) ∧ Later W0 w') := layoutOf_any _ zs hB W0 (Nat.le_trans hn hb0.size) (hI.below (hb0.mono hn))
  go_wp2_with fail
  refine HL.out.mono ?_
  rintro e w1 ⟨rfl, l1⟩
  have hA := (Below.refl w1.heap.size w1).alloc (Nat.le_refl _) (.cells #[.int .i64 (lyS zs), .int .i64 (lyC zs), .int .i64 (lyP zs)] 34)
  have rL := heap_alloc_new w1 (.cells #[.int .i64 (lyS zs), .int .i64 (lyC zs), .int .i64 (lyP zs)] 34)
  have RL := hide rL
  have hw1 : Later w w1 := hb0.trans l1
  have r1 := (l1.block w.heap.size (Array.getElem?_eq_some_iff.1 R0.out).1).trans R0.out
  have hs1 : w.heap.size < w1.heap.size := (Array.getElem?_eq_some_iff.1 r1).1
  have r2 := (hA.block w.heap.size hs1).trans r1
  have R2 := hide r2
  have hw2 : Below w.heap.size w (w1.alloc (.cells #[.int .i64 (lyS zs), .int .i64 (lyC zs), .int .i64 (lyP zs)] 34)) := hw1.trans hA
  clear rL r1 r2 hA R0 HL l1 hb0
  go_upto_region 2 with fail
  generalize w1.alloc _ = w2 at *
  obtain ⟨er, HE⟩ : ∃ er, Hid (lye zs = er) := ⟨_, rfl⟩
  rw [HE.out]
  by_cases c1 : er = 0
  · subst c1
    have HPT : Hid (pmT zs = getAt2 zs 8) := by show _ = _; unfold pmT; rw [if_pos HE.out]
    have HPR : Hid (pmR zs = if getAt2 zs 8 = 8 then zs[16]?.getD 0 else 0) := by
      show _ = _
      unfold pmR
      by_cases h : getAt2 zs 8 = 8
      · rw [if_pos ⟨HE.out, h⟩, if_pos h]
      · rw [if_neg (fun e => h e.2), if_neg h]
    have HLN : Hid (getAt2 zs 8 = 8 → zs.length = 32) := fun h => by
      have := HE.out
      unfold lye at this
      rw [h] at this
      split at this <;> (try omega)
      split at this <;> (try omega)
      split at this <;> (try omega)
      split at this <;> (try omega)
      split at this <;> (try omega)
      rename_i h5
      have e8 : lsz 8 = 32 := by decide
      rw [e8] at h5
      omega
    obtain ⟨t, HT⟩ : ∃ t, Hid (getAt2 zs 8 = t) := ⟨_, rfl⟩
    rw [HT.out] at HPT HPR HLN
    obtain ⟨cp, HC⟩ : ∃ t, Hid (lyC zs = t) := ⟨_, rfl⟩
    obtain ⟨pp, HP⟩ : ∃ t, Hid (lyP zs = t) := ⟨_, rfl⟩
    rw [HC.out, HP.out] at RL ⊢
    obtain ⟨mc, HMC⟩ : ∃ t, Hid (getAt2 zs cp = t) := ⟨_, rfl⟩
    obtain ⟨mp, HMP⟩ : ∃ t, Hid (getAt2 zs pp = t) := ⟨_, rfl⟩
    have hs2 : w1.heap.size < w2.heap.size := (Array.getElem?_eq_some_iff.1 RL.out).1
    go_upto_region 4 with fail
    refine anyR_begin (R := KI w2.heap.size 27 4 (List.toArray [.int .i64 t, .int .u16 mc, .int .u16 mp, .int .u8 0])) (KI.pre _ _ _ _) (fun w => KI.of (Later.drew w)) 13 rfl (by kernel_rfl) (fun W5 hW5 => ?_)
    have ha : ∀ v1, KI w2.heap.size 27 4 (List.toArray [.int .i64 t, .int .u16 mc, .int .u16 mp, .int .u8 0]) W5 v1 → ∀ j, v1.cell? ⟨w1.heap.size, j, none⟩ = #[Value.int .i64 (lyS zs), .int .i64 cp, .int .i64 pp][j]? := fun v1 h => block_cell (((hW5.trans h).1.block w1.heap.size hs2 (by omega)).trans RL.out)
    have hrd : ∀ v1, KI w2.heap.size 27 4 (List.toArray [.int .i64 t, .int .u16 mc, .int .u16 mp, .int .u8 0]) W5 v1 → Rd n₀ v1 (.slice a zs.length cap) zs := fun v1 h => hI.below ((hw2.trans ((hW5.trans h).1.below (n := w.heap.size) (by omega) (fun k hk e => by omega))).mono hn)
    have HRD := hide hrd
    clear hrd
    refine anyR_val (KI.pre _ _ _ _) 0 rfl (by kernel_rfl) (by kernel_rfl) (by kernel_rfl) (fun _ _ _ _ h => h) rfl ?_; apply Exists.intro; refine ⟨fun v1 hv1 => ?_, ?_⟩; (· (go_simp; rfl)); simp only [Act.put, List.setIfInBounds_toArray, List.set_cons_zero, List.set_cons_succ]
    refine anyR_take (KI.pre _ _ _ _) 1 (.int .i64 t) rfl (by kernel_rfl) (by kernel_rfl) (by kernel_rfl) (fun _ _ _ h => h) rfl (fun v1 hv1 => goes_call 9 #[.slice a zs.length cap] (by go_simp) ((typeOf_any _ zs hB v1 (HRD.out v1 hv1)).mono fun e w' ⟨he, n, hw⟩ => ⟨by rw [he, HT.out], by rw [hw]; exact KI.of (below_draw (Below.refl _ _) n)⟩)) ?_
    simp only [Act.put, List.setIfInBounds_toArray, List.set_cons_zero, List.set_cons_succ]
    refine anyR_val (KI.pre _ _ _ _) 2 rfl (by kernel_rfl) (by kernel_rfl) (by kernel_rfl) (fun _ _ _ _ h => h) rfl ?_; apply Exists.intro; refine ⟨fun v1 hv1 => ?_, ?_⟩; (· (go_simp; rfl)); simp only [Act.put, List.setIfInBounds_toArray, List.set_cons_zero, List.set_cons_succ]
    refine anyR_val (KI.pre _ _ _ _) 3 rfl (by kernel_rfl) (by kernel_rfl) (by kernel_rfl) (fun _ _ _ _ h => h) rfl ?_; apply Exists.intro; refine ⟨fun v1 hv1 => ?_, ?_⟩; (· (go_simp; rfl)); simp only [Act.put, List.setIfInBounds_toArray, List.set_cons_zero, List.set_cons_succ]
    refine anyR_val (KI.pre _ _ _ _) 4 rfl (by kernel_rfl) (by kernel_rfl) (by kernel_rfl) (fun _ _ _ _ h => h) rfl ?_; apply Exists.intro; refine ⟨fun v1 hv1 => ?_, ?_⟩; (· (go_simp; rfl)); simp only [Act.put, List.setIfInBounds_toArray, List.set_cons_zero, List.set_cons_succ]
    refine anyR_take (KI.pre _ _ _ _) 5 (.int .u16 mc) rfl (by kernel_rfl) (by kernel_rfl) (by kernel_rfl) (fun _ _ _ h => h) rfl (fun v1 hv1 => goes_call 10 #[.slice a zs.length cap, .int .i64 cp] (by go_simp) ((get16_at _ zs hB cp v1 (HRD.out v1 hv1)).mono fun e w' ⟨he, n, hw⟩ => ⟨by rw [he, HMC.out], by rw [hw]; exact KI.of (below_draw (Below.refl _ _) n)⟩)) ?_
    simp only [Act.put, List.setIfInBounds_toArray, List.set_cons_zero, List.set_cons_succ]
    refine anyR_val (KI.pre _ _ _ _) 6 rfl (by kernel_rfl) (by kernel_rfl) (by kernel_rfl) (fun _ _ _ _ h => h) rfl ?_; apply Exists.intro; refine ⟨fun v1 hv1 => ?_, ?_⟩; (· (go_simp; rfl)); simp only [Act.put, List.setIfInBounds_toArray, List.set_cons_zero, List.set_cons_succ]
    refine anyR_val (KI.pre _ _ _ _) 7 rfl (by kernel_rfl) (by kernel_rfl) (by kernel_rfl) (fun _ _ _ _ h => h) rfl ?_; apply Exists.intro; refine ⟨fun v1 hv1 => ?_, ?_⟩; (· (go_simp; rfl)); simp only [Act.put, List.setIfInBounds_toArray, List.set_cons_zero, List.set_cons_succ]
    refine anyR_val (KI.pre _ _ _ _) 8 rfl (by kernel_rfl) (by kernel_rfl) (by kernel_rfl) (fun _ _ _ _ h => h) rfl ?_; apply Exists.intro; refine ⟨fun v1 hv1 => ?_, ?_⟩; (· (go_simp; rfl)); simp only [Act.put, List.setIfInBounds_toArray, List.set_cons_zero, List.set_cons_succ]
    refine anyR_take (KI.pre _ _ _ _) 9 (.int .u16 mp) rfl (by kernel_rfl) (by kernel_rfl) (by kernel_rfl) (fun _ _ _ h => h) rfl (fun v1 hv1 => goes_call 10 #[.slice a zs.length cap, .int .i64 pp] (by go_simp) ((get16_at _ zs hB pp v1 (HRD.out v1 hv1)).mono fun e w' ⟨he, n, hw⟩ => ⟨by rw [he, HMP.out], by rw [hw]; exact KI.of (below_draw (Below.refl _ _) n)⟩)) ?_
    simp only [Act.put, List.setIfInBounds_toArray, List.set_cons_zero, List.set_cons_succ]
    refine anyR_val (KI.pre _ _ _ _) 10 rfl (by kernel_rfl) (by kernel_rfl) (by kernel_rfl) (fun _ _ _ _ h => h) rfl ?_; apply Exists.intro; refine ⟨fun v1 hv1 => ?_, ?_⟩; (· (go_simp; rfl)); simp only [Act.put, List.setIfInBounds_toArray, List.set_cons_zero, List.set_cons_succ]
    clear ha HRD
    refine anyR_one 11 rfl (by kernel_rfl) rfl (fun W6 hW6 => ?_)
    have hs6 : w2.heap.size ≤ W6.heap.size := (hW5.trans hW6).1.size
    unfold Oper.wp
    go_simp
    refine ⟨KI.of ((Below.refl _ _).alloc (Nat.le_refl _) _), ?_⟩
    refine anyR_one 12 rfl (by kernel_rfl) rfl (fun W7 hW7 => ?_)
    have hwr : Wr W6.heap.size 4 27 W7 := hW7.2.1 _ ⟨_, heap_alloc_new W6 _, rfl⟩
    have hst := KI.store (n₁ := w2.heap.size) [.int .i64 t, .int .u16 mc, .int .u16 mp, .int .u8 0] hs6 hwr rfl
    obtain ⟨cur, hcur, hsz⟩ := hwr
    have k7 := block_cell hcur
    have f7 := block_frozen hcur
    have HS := hide hst
    clear hst
    unfold Oper.wp
    go_simp
    generalize hV : (((W7.setCell ⟨W6.heap.size, 0, none⟩ _).setCell ⟨W6.heap.size, 1, none⟩ _).setCell ⟨W6.heap.size, 2, none⟩ _).setCell ⟨W6.heap.size, 3, none⟩ _ = V
    have hV9 : V = putRow W7 W6.heap.size 0 [.int .i64 t, .int .u16 mc, .int .u16 mp, .int .u8 0] := hV.symm
    have hst := HS.out
    rw [← hV9] at hst
    clear hV hV9 HS k7 f7
    refine ⟨hst.1, anyR_done (by kernel_rfl) (fun W8 hW8 => ?_)⟩
    have p8 := hW8.2.2 _ hst.2
    have LW8 : Later w2 W8 := ((((hW5.trans hW6).trans (KI.of ((Below.refl _ _).alloc (Nat.le_refl _) _))).trans hW7).trans (hst.1.trans hW8)).1.below (Nat.le_refl _) (fun k hk e => by omega)
    have L8 : Below w.heap.size w W8 := Later.below hw2 (Nat.le_refl _) LW8
    have hne8 : w.heap.size < W6.heap.size := by omega
    have r8 := (LW8.block w.heap.size (by omega)).trans R2.out
    generalize W6.heap.size = qb at *
    clear hst hW7 hW6 hs6 hcur hsz hW8 hW5 LW8 RL R2
    have hI8 := hI.below (L8.mono hn)
    have C8 := block_cell p8
    have D8 := block_frozen p8
    have CA := block_cell r8
    have FA := block_frozen r8
    by_cases c8 : t = 8
    · have t8 : (t == 8) = true := by simp [c8]
      have hl32 := HLN.out c8
      obtain ⟨b, off, cp0, e0, hlc, hmc, hbb, hcs⟩ := hI8.cells (by omega)
      have hcl := e0
      simp at hcl
      obtain ⟨rfl, rfl⟩ := hcl
      clear e0
      have d16 := hcs 16 (by omega)
      have C8' := hide c8
      have hi16 : (16 : Int) < zs.length := by omega
      have HR2 : Hid (pmR zs = zs[16]?.getD 0) := by show _ = _; rw [HPR.out, if_pos c8]
      clear hcs c8 hl32 HPR
      generalize zs[16]?.getD 0 = z at *
      have p9 := heap_set1 p8 3 (.int .u8 z)
      have r9 := (Below.heap_setCell W8 ⟨qb, 3, none⟩ (.int .u8 z) w.heap.size (by simp; omega)).trans r8
      have L9 : Below w.heap.size w (W8.setCell ⟨qb, 3, none⟩ (.int .u8 z)) := L8.setCell (p := ⟨qb, 3, none⟩) (by simp; omega) _
      have P9 := hide p9
      have R9 := hide r9
      clear p9 r9
      go_upto_region 7 with fail
      generalize W8.setCell ⟨qb, 3, none⟩ _ = W9 at *
      clear C8 D8 CA FA p8 r8
      have p9 := P9.out
      have r9 := R9.out
      have C9 := block_cell p9
      have CA := block_cell r9
      have FA := block_frozen r9
      simp at C9
      go_wp2_with fail
      generalize hV : ((((W9.setCell ⟨w.heap.size, 0, none⟩ _).setCell ⟨w.heap.size, 1, none⟩ _).setCell ⟨w.heap.size, 2, none⟩ _).setCell ⟨w.heap.size, 3, none⟩ _) = V8
      have hV9 : V8 = putRow W9 w.heap.size 0 [.int .i64 t, .int .u16 mc, .int .u16 mp, .int .u8 z] := hV.symm
      have hb8 : But (fun b => b = w.heap.size) W9 V8 := by rw [hV9]; exact putRow_but (E := fun b => b = w.heap.size) (n := w.heap.size) rfl _ _ _ _ (But.refl _ _)
      have p8 := putRow_all [.int .i64 t, .int .u16 mc, .int .u16 mp, .int .u8 z] r9 rfl
      rw [← hV9] at p8
      clear hV hV9
      have P8 := block_cell p8
      have hw8 : Below w.heap.size w V8 := L9.trans (hb8.below L9.size (fun k h e => by omega))
      exact bodyPost_ret (v := .tuple #[msg t mc mp z, .int .i64 0]) (by simp [results, Try.results5, go_sem, P8]) rfl ⟨by rw [HPT.out, HC.out, HP.out, HMC.out, HMP.out, HR2.out, HE.out], hw8⟩
    · have t8 : (t == 8) = false := by simp [c8]
      have C8' := hide c8
      clear c8
      go_wp2_with fail
      generalize hV : ((((W8.setCell ⟨w.heap.size, 0, none⟩ _).setCell ⟨w.heap.size, 1, none⟩ _).setCell ⟨w.heap.size, 2, none⟩ _).setCell ⟨w.heap.size, 3, none⟩ _) = V8
      have hV9 : V8 = putRow W8 w.heap.size 0 [.int .i64 t, .int .u16 mc, .int .u16 mp, .int .u8 0] := hV.symm
      have hb8 : But (fun b => b = w.heap.size) W8 V8 := by rw [hV9]; exact putRow_but (E := fun b => b = w.heap.size) (n := w.heap.size) rfl _ _ _ _ (But.refl _ _)
      have p8 := putRow_all [.int .i64 t, .int .u16 mc, .int .u16 mp, .int .u8 0] r8 rfl
      rw [← hV9] at p8
      clear hV hV9
      have P8 := block_cell p8
      have hw8 : Below w.heap.size w V8 := L8.trans (hb8.below L8.size (fun k h e => by omega))
      exact bodyPost_ret (v := .tuple #[msg t mc mp 0, .int .i64 0]) (by simp [results, Try.results5, go_sem, P8]) rfl ⟨by rw [HPT.out, HC.out, HP.out, HMC.out, HMP.out, HPR.out, if_neg C8'.out, HE.out], hw8⟩
  · have t1 : (er != 0) = true := by simp [c1]
    have C1 := hide c1
    clear c1
    have r2 := R2.out
    have CA := block_cell r2
    have FA := block_frozen r2
    go_wp2_with fail
    generalize hV : (((((w2.setCell ⟨w.heap.size, 0, none⟩ _).setCell ⟨w.heap.size, 1, none⟩ _).setCell ⟨w.heap.size, 2, none⟩ _)).setCell ⟨w.heap.size, 3, none⟩ _) = V8
    have hV9 : V8 = putRow w2 w.heap.size 0 [.int .i64 0, .int .u16 0, .int .u16 0, .int .u8 0] := hV.symm
    have hb8 : But (fun b => b = w.heap.size) w2 V8 := by rw [hV9]; exact putRow_but (E := fun b => b = w.heap.size) (n := w.heap.size) rfl _ _ _ _ (But.refl _ _)
    have p8 := putRow_all [.int .i64 0, .int .u16 0, .int .u16 0, .int .u8 0] r2 rfl
    rw [← hV9] at p8
    clear hV hV9
    have P8 := block_cell p8
    have hw8 : Below w.heap.size w V8 := hw2.trans (hb8.below hw2.size (fun k h e => by omega))
    have hne : lye zs ≠ 0 := by rw [HE.out]; exact C1.out
    exact bodyPost_ret (v := .tuple #[msg 0 0 0 0, .int .i64 er]) (by simp [results, Try.results5, go_sem, P8]) rfl ⟨by rw [lyC_no hne, lyP_no hne, getAt2_neg, show pmT zs = 0 from by unfold pmT; rw [if_neg hne], show pmR zs = 0 from by unfold pmR; rw [if_neg (fun h => hne h.1)], HE.out], hw8⟩
end Go.Proofs.Ytochdlmggbhmfab
