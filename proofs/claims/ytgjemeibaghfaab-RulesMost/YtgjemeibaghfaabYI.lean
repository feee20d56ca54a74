/- Package rules: New, Add. -/
import Derived.Test.YtgjemeibaghfaabYH
import Derived.Deep.AppendLies
namespace Go.Proofs.Ytgjemeibaghfaab
open Go.RowKit Go.Shelf
set_option maxRecDepth 100000
set_option linter.unusedVariables false
set_option linter.unusedSimpArgs false

theorem info_rule : (Try.prog.info? 30).map (fun i => (i.zero, i.size, i.bytes)) = some (some (.agg #[.int .i64 0, .int .u8 0, .int .u32 0, .int .i64 0, .int .u32 0, .int .u16 0, .int .u32 0, .int .u16 0]), 8, 40) := by kernel_rfl

theorem info_partsU {P : Program} {t : TypeId} {z : Value} {a b : Nat} (h : (P.info? t).map (fun i => (i.zero, i.size, i.bytes)) = some (some z, a, b)) : ∃ i, P.info? t = some i ∧ i.zero = some z ∧ i.size = a ∧ i.bytes = b := by
  cases hi : P.info? t with
  | none => rw [hi] at h; cases h
  | some i => rw [hi] at h; simp at h; exact ⟨i, rfl, h.1, h.2.1, h.2.2⟩

/-- What adding tells, and what the list is then. -/
def adE (l : List Ru) (x : Ru) : Int := if rtB x = false then 4 else if hasB x l = true then 10 else if 32 ≤ l.length then 9 else 0
def adL (l : List Ru) (x : Ru) : List Ru := if adE l x = 0 then l ++ [x] else l
theorem adL_no {l : List Ru} {x : Ru} (h : adE l x ≠ 0) : adL l x = l := by unfold adL; rw [if_neg h]
theorem adL_yes {l : List Ru} {x : Ru} (h : adE l x = 0) : adL l x = l ++ [x] := by unfold adL; rw [if_pos h]
theorem okL_add {l : List Ru} {x : Ru} (h : okL l) (hx : wfR x) : okL (adL l x) := by
  by_cases h0 : adE l x = 0
  · rw [adL_yes h0]
    unfold adE at h0
    split at h0
    · omega
    · rename_i h1
      split at h0
      · omega
      · split at h0
        · omega
        · refine ⟨by rw [List.length_append, List.length_singleton]; omega, fun y hy => ?_⟩
          rcases List.mem_append.1 hy with hy | hy
          · exact h.2 y hy
          · obtain rfl : y = x := by simpa using hy
            exact ⟨hx, by simpa using h1⟩
  · rw [adL_no h0]; exact h
theorem new_rowU (W : World) (x : Ru) : ∀ j u, (ruc x)[j]? = some u → (W.alloc (.cells (ruc x).toArray 30)).cell? ((⟨W.heap.size, 0, none⟩ : Addr).add j) = some u := fun j u hj => by
  rw [show (⟨W.heap.size, 0, none⟩ : Addr).add j = ⟨W.heap.size, j, none⟩ from by unfold Addr.add; split <;> simp_all, block_cell (heap_alloc_new W _) j]
  simpa using hj
/-- How a change of rules leaves them. -/
def RLq (t : TypeId) (base : Nat) (w w' : World) (b : Nat) (v : Value) (l : List Ru) : Prop := ∃ v', RL t base w' b v' l ∧ But (fun g => g = b ∨ v.ownBlock = some g) w w' ∧ (v'.ownBlock = v.ownBlock ∨ ∀ g, v'.ownBlock = some g → w.heap.size ≤ g)
theorem RLq.same {t : TypeId} {base : Nat} {w w' : World} {b : Nat} {v : Value} {l : List Ru} (h : RL t base w b v l) (k : Later w w') : RLq t base w w' b v l := ⟨v, h.later k, But.of k, .inl rfl⟩

theorem new9_any (w : World) : Calls Try.prog 5 #[] w fun e w' => e = .returned (.pointer (some ⟨w.heap.size, 0, none⟩)) ∧ Later w w' ∧ RL 42 w.heap.size w' w.heap.size (.slice none 0 0) [] := by
  have la : Later w (w.alloc (.cells #[.slice none 0 0] 42)) := (Below.refl _ _).alloc (Nat.le_refl _) _
  have hn := heap_alloc_new w (.cells #[.slice none 0 0] 42)
  go_enter Try.func5, Try.ntmps5
  go_wp2_with fail
  go_ret
  exact ⟨rfl, la, Nat.le_refl _, hn, rfl, .inl ⟨rfl, rfl⟩⟩

set_option maxHeartbeats 8000000 in
theorem add9_any (base b : Nat) (v : Value) (l : List Ru) (x : Ru) (w : World) (hT : RL 42 base w b v l) (hx : wfR x) (hl : l.length ≤ 32) (hbs : base ≤ w.heap.size) :
    Calls Try.prog 6 #[.pointer (some ⟨b, 0, none⟩), .agg (ruc x).toArray] w fun e w' => e = .returned (.int .i64 (adE l x)) ∧ RLq 42 base w w' b v (adL l x) := by
  obtain ⟨i0, hi0, hz0, hz1, hz2⟩ := info_partsU info_rule
  have HR9 := hide (fun W => right9_any x W hx)
  have lb0 : Later w (w.alloc (.cells (ruc x).toArray 30)) := (Below.refl _ _).alloc (Nat.le_refl _) _
  have rb := heap_alloc_new w (.cells (ruc x).toArray 30)
  obtain ⟨av, cv, rfl, _, _⟩ := (ownU_rd hT.2.2).slice
  have HNE : Hid (some b ≠ Value.ownBlock (.slice av l.length cv)) := fun e => hT.ne hT.2.1 (by decide) e.symm
  go_enter Try.func6, Try.ntmps6
  unfold ruc at rb
  have rk := block_cell rb
  unfold ruc
  go_wp2_with fail
  change Calls _ _ #[.agg (ruc x).toArray] (w.alloc (.cells (ruc x).toArray 30)) _
  unfold ruc at lb0
  unfold ruc
  generalize w.alloc _ = w0 at *
  refine (HR9.out w0).mono ?_
  rintro e w1 ⟨rfl, l1⟩
  cases hrt : rtB x with
  | false =>
    have hae : adE l x = 4 := by unfold adE; rw [if_pos hrt]
    have HAE := hide hae
    have HAL := hide (adL_no (l := l) (x := x) (by rw [hae]; omega))
    have lz := lb0.trans l1
    clear hae rk
    go_wp2_with fail
    go_ret
    exact ⟨by rw [HAE.out]; rfl, by rw [HAL.out]; exact RLq.same hT lz⟩
  | true =>
    have r1 := later_keep l1 rb
    clear rk
    have rk := block_cell r1
    have hT1 := hT.later (lb0.trans l1)
    go_wp2_with fail
    refine (has_any base (some ⟨b, 0, none⟩) l x w1 (.inr ⟨b, _, rfl, hT1⟩)).mono ?_
    rintro e w2 ⟨rfl, l2⟩
    have lz := (lb0.trans l1).trans l2
    cases hhs : hasB x l with
    | true =>
      have hae : adE l x = 10 := by unfold adE; rw [hrt, hhs]; simp
      have HAE := hide hae
      have HAL := hide (adL_no (l := l) (x := x) (by rw [hae]; omega))
      clear hae rk hrt hhs
      go_wp2_with fail
      go_ret
      exact ⟨by rw [HAE.out]; rfl, by rw [HAL.out]; exact RLq.same hT lz⟩
    | false =>
      have r2 := later_keep l2 r1
      have k2 := block_cell (hT.later lz).2.1
      by_cases hfull : 32 ≤ l.length
      · have hae : adE l x = 9 := by unfold adE; rw [hrt, hhs, if_neg (by simp), if_neg (by simp), if_pos hfull]
        have HAE := hide hae
        have HAL := hide (adL_no (l := l) (x := x) (by rw [hae]; omega))
        have hf' : (32 : Int) ≤ l.length := by omega
        clear hae rk hrt hhs
        go_wp2_with fail
        go_ret
        exact ⟨by rw [HAE.out]; rfl, by rw [HAL.out]; exact RLq.same hT lz⟩
      · have hae : adE l x = 0 := by unfold adE; rw [hrt, hhs, if_neg (by simp), if_neg (by simp), if_neg hfull]
        have HAE := hide hae
        have HAL := hide (adL_yes (l := l) (x := x) hae)
        have hf' : ¬ (32 : Int) ≤ l.length := by omega
        clear hae rk hrt hhs
        go_wp2_with fail
        clear k2
        have lbx := lz
        have rb := r2
        generalize hwx : w2 = wx at *
        clear hwx
        refine anyT_begin (R := But (fun g => g = b ∨ Value.ownBlock (.slice av l.length cv) = some g)) 11 rfl (by kernel_rfl) ?_
        have ld : Later wx wx.drew := Later.drew wx
        have LD := lbx.trans ld
        have rd0 := later_keep ld rb
        generalize wx.drew = Wd at *
        have hTd := hT.later LD
        have hnb : w.heap.size ≠ b := fun e => by have := hT.blt; omega
        have hnv : Value.ownBlock (.slice av l.length cv) ≠ some w.heap.size := fun e => by have := (hT.lt e).2; omega
        have ha : ∀ v1, But (fun g => g = b ∨ Value.ownBlock (.slice av l.length cv) = some g) Wd v1 → ∀ j, v1.cell? ⟨w.heap.size, j, none⟩ = #[Value.int .i64 x.kind, .int .u8 x.proto, .int .u32 x.net, .int .i64 x.bits, .int .u32 x.to, .int .u16 x.port, .int .u32 x.host, .int .u16 x.hp][j]? := fun v1 hv => block_cell ((hv.block w.heap.size (Array.getElem?_eq_some_iff.1 rd0).1 (fun hE => hE.elim hnb hnv)).trans rd0)
        refine anyT_val (But.pre _) 0 rfl (by kernel_rfl) (by kernel_rfl) (by kernel_rfl) (fun _ _ _ _ h => h) rfl ?_; apply Exists.intro; refine ⟨fun v1 hv1 => ?_, ?_⟩; (· (go_simp; rfl)); simp only [Act.put, List.setIfInBounds_toArray, List.set_cons_zero, List.set_cons_succ]
        refine anyT_val (But.pre _) 1 rfl (by kernel_rfl) (by kernel_rfl) (by kernel_rfl) (fun _ _ _ _ h => h) rfl ?_; apply Exists.intro; refine ⟨fun v1 hv1 => ?_, ?_⟩; (· (go_simp; rfl)); simp only [Act.put, List.setIfInBounds_toArray, List.set_cons_zero, List.set_cons_succ]
        refine anyT_val (But.pre _) 2 rfl (by kernel_rfl) (by kernel_rfl) (by kernel_rfl) (fun _ _ _ _ h => h) rfl ?_; apply Exists.intro; refine ⟨fun v1 hv1 => ?_, ?_⟩; (· (go_simp; rfl)); simp only [Act.put, List.setIfInBounds_toArray, List.set_cons_zero, List.set_cons_succ]
        refine anyT_val (But.pre _) 3 rfl (by kernel_rfl) (by kernel_rfl) (by kernel_rfl) (fun _ _ _ _ h => h) rfl ?_; apply Exists.intro; refine ⟨fun v1 hv1 => ?_, ?_⟩; (· (go_simp; rfl)); simp only [Act.put, List.setIfInBounds_toArray, List.set_cons_zero, List.set_cons_succ]
        refine anyT_val (But.pre _) 5 rfl (by kernel_rfl) (by kernel_rfl) (by kernel_rfl) (fun _ _ _ _ h => h) rfl ?_; apply Exists.intro; refine ⟨fun v1 hv1 => ?_, ?_⟩; (· (go_simp; rfl)); simp only [Act.put, List.setIfInBounds_toArray, List.set_cons_zero, List.set_cons_succ]
        clear ha
        have kd := block_cell hTd.2.1
        refine anyT_two 4 6 rfl rfl (by kernel_rfl) rfl rfl ?_ ?_
        · unfold Oper.wp
          go_simp
          refine ⟨But.refl _ _, ?_⟩
          clear kd
          refine anyT_one 6 rfl (by kernel_rfl) rfl ?_
          unfold Oper.wp
          go_simp
          have l1 : Later Wd (Wd.alloc (.cells (ruc x).toArray 30)) := (Below.refl _ _).alloc (Nat.le_refl _) _
          have HN1 := new_rowU Wd x
          have LL := LD.trans l1
          refine ⟨But.of l1, ?_⟩
          change wpAnyT _ _ _ _ _ _ _ _ (Wd.alloc (.cells (ruc x).toArray 30))
          generalize Wd.alloc (.cells (ruc x).toArray 30) = W1 at *
          generalize Wd.heap.size = gn at *
          have hT1 := hT.later LL
          have hO1 := hT1.2.2
          have hbs1 := Nat.le_trans hbs LL.size
          refine anyT_one 7 rfl (by kernel_rfl) rfl ?_
          refine wp_append_lies W1 (.tmp 27) (.tmp 29) 31 rfl base 30 i0 (.agg #[.int .i64 0, .int .u8 0, .int .u32 0, .int .i64 0, .int .u32 0, .int .u16 0, .int .u32 0, .int .u16 0]) 8 40 Try.underlying31 hi0 hz0 hz1 hz2 rfl (by decide) (.slice av l.length cv) l.length (rus l) rfl hO1 ⟨gn, 0, none⟩ 1 1 (ruc x) rfl rfl HN1 (by intro u hu; simp only [ruc, List.mem_cons, List.not_mem_nil, or_false] at hu; rcases hu with rfl | rfl | rfl | rfl | rfl | rfl | rfl | rfl <;> rfl) (by omega) (by unfold maxLen; omega) (by omega) hbs1 _ rfl ?_
          intro g' cap' W6 hrow6 hg6 hpl hlt6
          have hb6 : But (fun g => g = b ∨ Value.ownBlock (.slice av l.length cv) = some g) W1 W6 := ⟨hg6.os, hg6.tape, hg6.output, hg6.size, fun k hk he => hg6.block k hk (fun e => he (.inr e.symm))⟩
          refine ⟨hb6, ?_⟩
          simp only [Act.put, List.setIfInBounds_toArray, List.set_cons_zero, List.set_cons_succ]
          have h6 : W6.heap[b]? = some (.cells #[.slice av l.length cv] 42 (0, 0)) := (hg6.block b (Array.getElem?_eq_some_iff.1 hT1.2.1).1 HNE.out).trans hT1.2.1
          have k6 := block_cell h6
          have f6 := block_frozen h6
          refine anyT_val (But.pre _) 8 rfl (by kernel_rfl) (by kernel_rfl) (by kernel_rfl) (fun _ _ _ _ h => h) rfl ?_; apply Exists.intro; refine ⟨fun v1 hv1 => ?_, ?_⟩; (· (go_simp; rfl)); simp only [Act.put, List.setIfInBounds_toArray, List.set_cons_zero, List.set_cons_succ]
          refine anyT_val (But.pre _) 9 rfl (by kernel_rfl) (by kernel_rfl) (by kernel_rfl) (fun _ _ _ _ h => h) rfl ?_; apply Exists.intro; refine ⟨fun v1 hv1 => ?_, ?_⟩; (· (go_simp; rfl)); simp only [Act.put, List.setIfInBounds_toArray, List.set_cons_zero, List.set_cons_succ]
          refine anyT_one 10 rfl (by kernel_rfl) rfl ?_
          unfold Oper.wp
          go_simp
          generalize hV : W6.setCell ⟨b, 0, none⟩ _ = V
          have hV3 := heap_set1 h6 0 (.slice (some ⟨g', 0, none⟩) (l.length + 1) cap')
          rw [hV] at hV3
          have hbV2 : But (fun g => g = b ∨ Value.ownBlock (.slice av l.length cv) = some g) W6 V := by rw [← hV]; exact (But.refl (fun g => g = b ∨ Value.ownBlock (.slice av l.length cv) = some g) _).setCell (p := ⟨b, 0, none⟩) (.inl rfl) _
          have hbV1 : But (fun g => g = b) W6 V := by rw [← hV]; exact (But.refl (fun g => g = b) _).setCell (p := ⟨b, 0, none⟩) rfl _
          refine ⟨hbV2, ?_⟩
          clear hV k6 f6
          refine anyT_done (by kernel_rfl) ?_
          have hfin : RLq 42 base w V b (.slice av l.length cv) (l ++ [x]) := by
            refine ⟨.slice (some ⟨g', 0, none⟩) (l.length + 1) cap', ⟨hT.1, hV3, ?_⟩, (But.of LL).trans (hb6.trans hbV2), ?_⟩
            · rw [rus_snoc, List.length_append, List.length_singleton]
              obtain ⟨q1, ⟨q2, q3⟩ | ⟨g, cap, cur, hv, hgb, hh, q⟩⟩ := hrow6
              · simp at q2
              · refine ⟨q1, .inr ⟨g, cap, cur, hv, hgb, (hbV1.block g (Array.getElem?_eq_some_iff.1 hh).1 (fun e => ?_)).trans hh, q⟩⟩
                subst e
                rw [h6] at hh
                simp at hh
            · rcases hpl with h | h
              · exact .inl h.symm
              · refine .inr (fun g hg => ?_)
                have : g' = g := by simpa [Value.ownBlock] using hg
                subst this
                have := LL.size
                omega
          have HF := hide hfin
          clear hfin
          go_wp2_with fail
          go_ret
          exact ⟨by rw [HAE.out]; rfl, by rw [HAL.out]; exact HF.out⟩
        · unfold Oper.wp
          go_simp
          have l1 : Later Wd (Wd.alloc (.cells (ruc x).toArray 30)) := (Below.refl _ _).alloc (Nat.le_refl _) _
          have HN1 := new_rowU Wd x
          have LL := LD.trans l1
          refine ⟨But.of l1, ?_⟩
          have k1 := block_cell (later_keep l1 hTd.2.1)
          clear kd
          change wpAnyT _ _ _ _ _ _ _ _ (Wd.alloc (.cells (ruc x).toArray 30))
          generalize Wd.alloc (.cells (ruc x).toArray 30) = W1 at *
          generalize Wd.heap.size = gn at *
          refine anyT_one 4 rfl (by kernel_rfl) rfl ?_
          unfold Oper.wp
          go_simp
          refine ⟨But.refl _ _, ?_⟩
          clear k1
          have hT1 := hT.later LL
          have hO1 := hT1.2.2
          have hbs1 := Nat.le_trans hbs LL.size
          refine anyT_one 7 rfl (by kernel_rfl) rfl ?_
          refine wp_append_lies W1 (.tmp 27) (.tmp 29) 31 rfl base 30 i0 (.agg #[.int .i64 0, .int .u8 0, .int .u32 0, .int .i64 0, .int .u32 0, .int .u16 0, .int .u32 0, .int .u16 0]) 8 40 Try.underlying31 hi0 hz0 hz1 hz2 rfl (by decide) (.slice av l.length cv) l.length (rus l) rfl hO1 ⟨gn, 0, none⟩ 1 1 (ruc x) rfl rfl HN1 (by intro u hu; simp only [ruc, List.mem_cons, List.not_mem_nil, or_false] at hu; rcases hu with rfl | rfl | rfl | rfl | rfl | rfl | rfl | rfl <;> rfl) (by omega) (by unfold maxLen; omega) (by omega) hbs1 _ rfl ?_
          intro g' cap' W6 hrow6 hg6 hpl hlt6
          have hb6 : But (fun g => g = b ∨ Value.ownBlock (.slice av l.length cv) = some g) W1 W6 := ⟨hg6.os, hg6.tape, hg6.output, hg6.size, fun k hk he => hg6.block k hk (fun e => he (.inr e.symm))⟩
          refine ⟨hb6, ?_⟩
          simp only [Act.put, List.setIfInBounds_toArray, List.set_cons_zero, List.set_cons_succ]
          have h6 : W6.heap[b]? = some (.cells #[.slice av l.length cv] 42 (0, 0)) := (hg6.block b (Array.getElem?_eq_some_iff.1 hT1.2.1).1 HNE.out).trans hT1.2.1
          have k6 := block_cell h6
          have f6 := block_frozen h6
          refine anyT_val (But.pre _) 8 rfl (by kernel_rfl) (by kernel_rfl) (by kernel_rfl) (fun _ _ _ _ h => h) rfl ?_; apply Exists.intro; refine ⟨fun v1 hv1 => ?_, ?_⟩; (· (go_simp; rfl)); simp only [Act.put, List.setIfInBounds_toArray, List.set_cons_zero, List.set_cons_succ]
          refine anyT_val (But.pre _) 9 rfl (by kernel_rfl) (by kernel_rfl) (by kernel_rfl) (fun _ _ _ _ h => h) rfl ?_; apply Exists.intro; refine ⟨fun v1 hv1 => ?_, ?_⟩; (· (go_simp; rfl)); simp only [Act.put, List.setIfInBounds_toArray, List.set_cons_zero, List.set_cons_succ]
          refine anyT_one 10 rfl (by kernel_rfl) rfl ?_
          unfold Oper.wp
          go_simp
          generalize hV : W6.setCell ⟨b, 0, none⟩ _ = V
          have hV3 := heap_set1 h6 0 (.slice (some ⟨g', 0, none⟩) (l.length + 1) cap')
          rw [hV] at hV3
          have hbV2 : But (fun g => g = b ∨ Value.ownBlock (.slice av l.length cv) = some g) W6 V := by rw [← hV]; exact (But.refl (fun g => g = b ∨ Value.ownBlock (.slice av l.length cv) = some g) _).setCell (p := ⟨b, 0, none⟩) (.inl rfl) _
          have hbV1 : But (fun g => g = b) W6 V := by rw [← hV]; exact (But.refl (fun g => g = b) _).setCell (p := ⟨b, 0, none⟩) rfl _
          refine ⟨hbV2, ?_⟩
          clear hV k6 f6
          refine anyT_done (by kernel_rfl) ?_
          have hfin : RLq 42 base w V b (.slice av l.length cv) (l ++ [x]) := by
            refine ⟨.slice (some ⟨g', 0, none⟩) (l.length + 1) cap', ⟨hT.1, hV3, ?_⟩, (But.of LL).trans (hb6.trans hbV2), ?_⟩
            · rw [rus_snoc, List.length_append, List.length_singleton]
              obtain ⟨q1, ⟨q2, q3⟩ | ⟨g, cap, cur, hv, hgb, hh, q⟩⟩ := hrow6
              · simp at q2
              · refine ⟨q1, .inr ⟨g, cap, cur, hv, hgb, (hbV1.block g (Array.getElem?_eq_some_iff.1 hh).1 (fun e => ?_)).trans hh, q⟩⟩
                subst e
                rw [h6] at hh
                simp at hh
            · rcases hpl with h | h
              · exact .inl h.symm
              · refine .inr (fun g hg => ?_)
                have : g' = g := by simpa [Value.ownBlock] using hg
                subst this
                have := LL.size
                omega
          have HF := hide hfin
          clear hfin
          go_wp2_with fail
          go_ret
          exact ⟨by rw [HAE.out]; rfl, by rw [HAL.out]; exact HF.out⟩
end Go.Proofs.Ytgjemeibaghfaab
