/- Package table: a row added to its list. -/
import Derived.Test.YtahphjindjlcpaaBD
namespace Go.Proofs.Ytahphjindjlcpaa
open Go.RowKit Go.Shelf
set_option maxRecDepth 100000
set_option linter.unusedVariables false
set_option linter.unusedSimpArgs false

theorem new_row (W : World) (xs : List Value) : ∀ j u, xs[j]? = some u → (W.alloc (.cells xs.toArray 65)).cell? ((⟨W.heap.size, 0, none⟩ : Addr).add j) = some u := fun j u hj => by
  rw [show (⟨W.heap.size, 0, none⟩ : Addr).add j = ⟨W.heap.size, j, none⟩ from by unfold Addr.add; split <;> simp_all, block_cell (heap_alloc_new W _) j]
  simpa using hj

set_option maxHeartbeats 8000000 in
theorem add_any (base bt : Nat) (lim cnt trn : Int) (vs : List Value) (ls : Nat → List Rw) (h : Int) (i : Nat) (p s d a b id till turn : Int) (w : World) (hT : TBv base w bt lim cnt trn vs ls) (hh : 0 ≤ h ∧ h ≤ 4294967295) (hhi : (h % 256).toNat = i) (hln : (ls i).length ≤ 5000) (hbs : base ≤ w.heap.size) :
    Calls Try.prog 33 #[.pointer (some ⟨bt, 3, none⟩), .int .u32 h, .agg #[.int .u8 p, .int .u32 s, .int .u32 d, .int .u16 a, .int .u16 b, .int .i64 id, .int .i64 till, .int .i64 turn]] w fun e w' => e = .returned (.tuple #[]) ∧ TB base w' bt lim cnt trn (addL ls i ⟨p, s, d, a, b, id, till, turn⟩) ∧ But (fun g => g = bt ∨ (vs[i]?.getD undef).ownBlock = some g) w w' := by
  obtain ⟨i0, hi0, hz0, hz1, hz2⟩ := info_parts info_row
  have hi : i < 256 := by omega
  have HI := hide hhi
  clear hhi
  have hO := hT.2.2.2.1 i hi
  generalize hvs : vs[i]?.getD undef = v at *
  have HVS := hide hvs
  clear hvs
  obtain ⟨av, cv, rfl, _, _⟩ := (ownR_rd hO).slice
  have HNE : Hid (some bt ≠ Value.ownBlock (.slice av (ls i).length cv)) := by
    show _ ≠ _
    intro e
    obtain ⟨_, ⟨hn, _⟩ | ⟨g, cap, cur, hv, _, hh2, _⟩⟩ := hO
    · rw [hn] at e; cases e
    · rw [hv] at e
      cases e
      rw [hT.2.2.1] at hh2
      simp at hh2
  have lb0 : Later w (w.alloc (.cells #[.int .u8 p, .int .u32 s, .int .u32 d, .int .u16 a, .int .u16 b, .int .i64 id, .int .i64 till, .int .i64 turn] 65)) := (Below.refl _ _).alloc (Nat.le_refl _) _
  have rb := heap_alloc_new w (.cells #[.int .u8 p, .int .u32 s, .int .u32 d, .int .u16 a, .int .u16 b, .int .i64 id, .int .i64 till, .int .i64 turn] 65)
  have HO := hide hO
  clear hO
  go_enter Try.func33, Try.ntmps33
  go_wp2_with fail
  generalize w.alloc (.cells #[.int .u8 p, .int .u32 s, .int .u32 d, .int .u16 a, .int .u16 b, .int .i64 id, .int .i64 till, .int .i64 turn] 65) = w0 at *
  refine (list_any bt h w0 hh).mono ?_
  rw [HI.out]
  rintro e w1 ⟨rfl, rfl⟩
  go_upto_region 2 with fail
  generalize hwx : w1 = wx at *
  clear hwx
  refine anyT_begin (R := But (fun g => g = bt ∨ Value.ownBlock (.slice av (ls i).length cv) = some g)) 9 rfl (by kernel_rfl) ?_
  have ld : Later wx wx.drew := Later.drew wx
  have LD := lb0.trans ld
  have rd0 := later_keep ld rb
  generalize wx.drew = Wd at *
  have hTd := hT.later LD
  have hnb : w.heap.size ≠ bt := fun e => by have := (Array.getElem?_eq_some_iff.1 hT.2.2.1).1; omega
  have hnv : Value.ownBlock (.slice av (ls i).length cv) ≠ some w.heap.size := fun e => by have := (HO.out.lt _ e).2; omega
  have ha : ∀ v1, But (fun g => g = bt ∨ Value.ownBlock (.slice av (ls i).length cv) = some g) Wd v1 → ∀ j, v1.cell? ⟨w.heap.size, j, none⟩ = #[Value.int .u8 p, .int .u32 s, .int .u32 d, .int .u16 a, .int .u16 b, .int .i64 id, .int .i64 till, .int .i64 turn][j]? := fun v1 hv => block_cell ((hv.block w.heap.size (Array.getElem?_eq_some_iff.1 rd0).1 (fun hE => hE.elim hnb hnv)).trans rd0)
  refine anyT_val (But.pre _) 0 rfl (by kernel_rfl) (by kernel_rfl) (by kernel_rfl) (fun _ _ _ _ h => h) rfl ?_; apply Exists.intro; refine ⟨fun v1 hv1 => ?_, ?_⟩; (· (go_simp; rfl)); simp only [Act.put, List.setIfInBounds_toArray, List.set_cons_zero, List.set_cons_succ]
  refine anyT_val (But.pre _) 1 rfl (by kernel_rfl) (by kernel_rfl) (by kernel_rfl) (fun _ _ _ _ h => h) rfl ?_; apply Exists.intro; refine ⟨fun v1 hv1 => ?_, ?_⟩; (· (go_simp; rfl)); simp only [Act.put, List.setIfInBounds_toArray, List.set_cons_zero, List.set_cons_succ]
  refine anyT_val (But.pre _) 2 rfl (by kernel_rfl) (by kernel_rfl) (by kernel_rfl) (fun _ _ _ _ h => h) rfl ?_; apply Exists.intro; refine ⟨fun v1 hv1 => ?_, ?_⟩; (· (go_simp; rfl)); simp only [Act.put, List.setIfInBounds_toArray, List.set_cons_zero, List.set_cons_succ]
  refine anyT_val (But.pre _) 4 rfl (by kernel_rfl) (by kernel_rfl) (by kernel_rfl) (fun _ _ _ _ h => h) rfl ?_; apply Exists.intro; refine ⟨fun v1 hv1 => ?_, ?_⟩; (· (go_simp; rfl)); simp only [Act.put, List.setIfInBounds_toArray, List.set_cons_zero, List.set_cons_succ]
  clear ha
  have kd : Wd.cell? ⟨bt, 3 + i, none⟩ = some (.slice av (ls i).length cv) := (hTd.cell i hi).trans (by rw [HVS.out])
  refine anyT_two 3 5 rfl rfl (by kernel_rfl) rfl rfl ?_ ?_
  · unfold Oper.wp
    go_simp
    refine ⟨But.refl _ _, ?_⟩
    clear kd
    refine anyT_one 5 rfl (by kernel_rfl) rfl ?_
    unfold Oper.wp
    go_simp
    have l1 : Later Wd (Wd.alloc (.cells #[.int .u8 p, .int .u32 s, .int .u32 d, .int .u16 a, .int .u16 b, .int .i64 id, .int .i64 till, .int .i64 turn] 65)) := (Below.refl _ _).alloc (Nat.le_refl _) _
    have HN1 := new_row Wd (rwc ⟨p, s, d, a, b, id, till, turn⟩)
    have LL := LD.trans l1
    refine ⟨But.of l1, ?_⟩
    generalize hW1 : Wd.alloc (.cells #[.int .u8 p, .int .u32 s, .int .u32 d, .int .u16 a, .int .u16 b, .int .i64 id, .int .i64 till, .int .i64 turn] 65) = W1 at *
    rw [show Wd.alloc (.cells (rwc ⟨p, s, d, a, b, id, till, turn⟩).toArray 65) = W1 from hW1] at HN1
    clear hW1
    generalize Wd.heap.size = gn at *
    have hT1 := hT.later LL
    have hO1 := ownR_later HO.out LL
    have hbs1 := Nat.le_trans hbs LL.size
    refine anyT_one 6 rfl (by kernel_rfl) rfl ?_
    refine wp_append_lies W1 (.tmp 13) (.tmp 15) 57 rfl base 65 i0 (.agg #[.int .u8 0, .int .u32 0, .int .u32 0, .int .u16 0, .int .u16 0, .int .i64 0, .int .i64 0, .int .i64 0]) 8 40 Try.underlying57 hi0 hz0 hz1 hz2 rfl (by decide) (.slice av (ls i).length cv) (ls i).length (rws (ls i)) rfl hO1 ⟨gn, 0, none⟩ 1 1 (rwc ⟨p, s, d, a, b, id, till, turn⟩) rfl rfl HN1 (by intro u hu; simp only [rwc, List.mem_cons, List.not_mem_nil, or_false] at hu; rcases hu with rfl | rfl | rfl | rfl | rfl | rfl | rfl | rfl <;> rfl) (by omega) (by unfold maxLen; omega) (by omega) hbs1 _ rfl ?_
    intro g' cap' W6 hrow6 hg6 hpl hlt6
    have hb6 : But (fun g => g = bt ∨ Value.ownBlock (.slice av (ls i).length cv) = some g) W1 W6 := ⟨hg6.os, hg6.tape, hg6.output, hg6.size, fun k hk he => hg6.block k hk (fun e => he (.inr e.symm))⟩
    refine ⟨hb6, ?_⟩
    simp only [Act.put, List.setIfInBounds_toArray, List.set_cons_zero, List.set_cons_succ]
    have h6 : W6.heap[bt]? = some (.cells (.int .i64 lim :: .int .i64 cnt :: .int .i64 trn :: vs).toArray 62 (0, 0)) := (hg6.block bt (Array.getElem?_eq_some_iff.1 hT1.2.2.1).1 HNE.out).trans hT1.2.2.1
    have k6 : W6.cell? ⟨bt, 3 + i, none⟩ = some (.slice av (ls i).length cv) := by
      rw [block_cell h6, ← block_cell hT1.2.2.1]
      exact (hT1.cell i hi).trans (by rw [HVS.out])
    have f6 : W6.frozen? ⟨bt, 3 + i, none⟩ = false := block_frozen h6 _
    refine anyT_val (But.pre _) 7 rfl (by kernel_rfl) (by kernel_rfl) (by kernel_rfl) (fun _ _ _ _ h => h) rfl ?_; apply Exists.intro; refine ⟨fun v1 hv1 => ?_, ?_⟩; (· (go_simp; rfl)); simp only [Act.put, List.setIfInBounds_toArray, List.set_cons_zero, List.set_cons_succ]
    refine anyT_one 8 rfl (by kernel_rfl) rfl ?_
    unfold Oper.wp
    go_simp
    generalize hV : W6.setCell ⟨bt, 3 + i, none⟩ _ = V
    have hV3 := heap_set1 h6 (3 + i) (.slice (some ⟨g', 0, none⟩) ((ls i).length + 1) cap')
    rw [hV] at hV3
    have hbV : But (fun g => g = bt) W6 V := by rw [← hV]; exact (But.refl (fun g => g = bt) _).setCell (p := ⟨bt, 3 + i, none⟩) rfl _
    have hbV2 : But (fun g => g = bt ∨ Value.ownBlock (.slice av (ls i).length cv) = some g) W6 V := by rw [← hV]; exact (But.refl (fun g => g = bt ∨ Value.ownBlock (.slice av (ls i).length cv) = some g) _).setCell (p := ⟨bt, 3 + i, none⟩) (.inl rfl) _
    refine ⟨hbV2, ?_⟩
    clear hV k6 f6
    refine anyT_done (by kernel_rfl) ?_
    have hset : (Value.int .i64 lim :: .int .i64 cnt :: .int .i64 trn :: vs).toArray.setIfInBounds (3 + i) (.slice (some ⟨g', 0, none⟩) ((ls i).length + 1) cap') = (Value.int .i64 lim :: .int .i64 cnt :: .int .i64 trn :: vs.set i (.slice (some ⟨g', 0, none⟩) ((ls i).length + 1) cap')).toArray := by
      rw [show 3 + i = i + 1 + 1 + 1 from by omega]
      simp
    rw [hset] at hV3
    have hfin := hT1.added i hi ⟨p, s, d, a, b, id, till, turn⟩ hrow6 (by rw [HVS.out]; exact hg6) (by rw [HVS.out]; exact hpl.imp (fun x => x) (fun h => by rw [h]; exact Nat.le_refl _)) hbV hV3
    have hbf := (But.of LL).trans (hb6.trans hbV2)
    have HF := hide hfin
    clear hfin
    go_wp2_with fail
    go_end0
    exact ⟨rfl, ⟨_, HF.out⟩, hbf⟩
  · unfold Oper.wp
    go_simp
    have l1 : Later Wd (Wd.alloc (.cells #[.int .u8 p, .int .u32 s, .int .u32 d, .int .u16 a, .int .u16 b, .int .i64 id, .int .i64 till, .int .i64 turn] 65)) := (Below.refl _ _).alloc (Nat.le_refl _) _
    have HN1 := new_row Wd (rwc ⟨p, s, d, a, b, id, till, turn⟩)
    have LL := LD.trans l1
    refine ⟨But.of l1, ?_⟩
    have k1 := l1.cell kd
    clear kd
    generalize hW1 : Wd.alloc (.cells #[.int .u8 p, .int .u32 s, .int .u32 d, .int .u16 a, .int .u16 b, .int .i64 id, .int .i64 till, .int .i64 turn] 65) = W1 at *
    rw [show Wd.alloc (.cells (rwc ⟨p, s, d, a, b, id, till, turn⟩).toArray 65) = W1 from hW1] at HN1
    clear hW1
    generalize Wd.heap.size = gn at *
    refine anyT_one 3 rfl (by kernel_rfl) rfl ?_
    unfold Oper.wp
    go_simp
    refine ⟨But.refl _ _, ?_⟩
    clear k1
    have hT1 := hT.later LL
    have hO1 := ownR_later HO.out LL
    have hbs1 := Nat.le_trans hbs LL.size
    refine anyT_one 6 rfl (by kernel_rfl) rfl ?_
    refine wp_append_lies W1 (.tmp 13) (.tmp 15) 57 rfl base 65 i0 (.agg #[.int .u8 0, .int .u32 0, .int .u32 0, .int .u16 0, .int .u16 0, .int .i64 0, .int .i64 0, .int .i64 0]) 8 40 Try.underlying57 hi0 hz0 hz1 hz2 rfl (by decide) (.slice av (ls i).length cv) (ls i).length (rws (ls i)) rfl hO1 ⟨gn, 0, none⟩ 1 1 (rwc ⟨p, s, d, a, b, id, till, turn⟩) rfl rfl HN1 (by intro u hu; simp only [rwc, List.mem_cons, List.not_mem_nil, or_false] at hu; rcases hu with rfl | rfl | rfl | rfl | rfl | rfl | rfl | rfl <;> rfl) (by omega) (by unfold maxLen; omega) (by omega) hbs1 _ rfl ?_
    intro g' cap' W6 hrow6 hg6 hpl hlt6
    have hb6 : But (fun g => g = bt ∨ Value.ownBlock (.slice av (ls i).length cv) = some g) W1 W6 := ⟨hg6.os, hg6.tape, hg6.output, hg6.size, fun k hk he => hg6.block k hk (fun e => he (.inr e.symm))⟩
    refine ⟨hb6, ?_⟩
    simp only [Act.put, List.setIfInBounds_toArray, List.set_cons_zero, List.set_cons_succ]
    have h6 : W6.heap[bt]? = some (.cells (.int .i64 lim :: .int .i64 cnt :: .int .i64 trn :: vs).toArray 62 (0, 0)) := (hg6.block bt (Array.getElem?_eq_some_iff.1 hT1.2.2.1).1 HNE.out).trans hT1.2.2.1
    have k6 : W6.cell? ⟨bt, 3 + i, none⟩ = some (.slice av (ls i).length cv) := by
      rw [block_cell h6, ← block_cell hT1.2.2.1]
      exact (hT1.cell i hi).trans (by rw [HVS.out])
    have f6 : W6.frozen? ⟨bt, 3 + i, none⟩ = false := block_frozen h6 _
    refine anyT_val (But.pre _) 7 rfl (by kernel_rfl) (by kernel_rfl) (by kernel_rfl) (fun _ _ _ _ h => h) rfl ?_; apply Exists.intro; refine ⟨fun v1 hv1 => ?_, ?_⟩; (· (go_simp; rfl)); simp only [Act.put, List.setIfInBounds_toArray, List.set_cons_zero, List.set_cons_succ]
    refine anyT_one 8 rfl (by kernel_rfl) rfl ?_
    unfold Oper.wp
    go_simp
    generalize hV : W6.setCell ⟨bt, 3 + i, none⟩ _ = V
    have hV3 := heap_set1 h6 (3 + i) (.slice (some ⟨g', 0, none⟩) ((ls i).length + 1) cap')
    rw [hV] at hV3
    have hbV : But (fun g => g = bt) W6 V := by rw [← hV]; exact (But.refl (fun g => g = bt) _).setCell (p := ⟨bt, 3 + i, none⟩) rfl _
    have hbV2 : But (fun g => g = bt ∨ Value.ownBlock (.slice av (ls i).length cv) = some g) W6 V := by rw [← hV]; exact (But.refl (fun g => g = bt ∨ Value.ownBlock (.slice av (ls i).length cv) = some g) _).setCell (p := ⟨bt, 3 + i, none⟩) (.inl rfl) _
    refine ⟨hbV2, ?_⟩
    clear hV k6 f6
    refine anyT_done (by kernel_rfl) ?_
    have hset : (Value.int .i64 lim :: .int .i64 cnt :: .int .i64 trn :: vs).toArray.setIfInBounds (3 + i) (.slice (some ⟨g', 0, none⟩) ((ls i).length + 1) cap') = (Value.int .i64 lim :: .int .i64 cnt :: .int .i64 trn :: vs.set i (.slice (some ⟨g', 0, none⟩) ((ls i).length + 1) cap')).toArray := by
      rw [show 3 + i = i + 1 + 1 + 1 from by omega]
      simp
    rw [hset] at hV3
    have hfin := hT1.added i hi ⟨p, s, d, a, b, id, till, turn⟩ hrow6 (by rw [HVS.out]; exact hg6) (by rw [HVS.out]; exact hpl.imp (fun x => x) (fun h => by rw [h]; exact Nat.le_refl _)) hbV hV3
    have hbf := (But.of LL).trans (hb6.trans hbV2)
    have HF := hide hfin
    clear hfin
    go_wp2_with fail
    go_end0
    exact ⟨rfl, ⟨_, HF.out⟩, hbf⟩
end Go.Proofs.Ytahphjindjlcpaa
