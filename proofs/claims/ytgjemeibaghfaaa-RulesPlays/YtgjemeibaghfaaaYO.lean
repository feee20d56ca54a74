/- The document's Add of rules. -/
import Derived.Test.YtgjemeibaghfaaaYN
import Derived.Test.YtgjemeibaghfaaaYD
namespace Go.Proofs.Ytgjemeibaghfaaa
open Go.RowKit Go.Shelf
set_option maxRecDepth 100000
set_option linter.unusedVariables false
set_option linter.unusedSimpArgs false

theorem hasB_no {x : Ru} {l : List Ru} (h : ∀ j (hj : j < l.length), l[j] ≠ x) : hasB x l = false := by
  cases hb : hasB x l with
  | false => rfl
  | true =>
    obtain ⟨j, hj, e⟩ := List.getElem_of_mem (hasB_iff.1 hb)
    exact absurd e (h j hj)
theorem exec_eql (ρ : Operand → Value) (o : Oper) (p q : Operand) (ty : TypeId) (hop : o.op = .binOp .eql 36 p q ty) (x y : Ru) (hx : ρ p = .agg (ruc x).toArray) (hy : ρ q = .agg (ruc y).toArray) (w : World) : (execOp ρ o).run Try.prog w = .ok (.value (.bool (decide (x = y)))) w := by
  obtain ⟨k1, p1, n1, b1, t1, q1, h1, g1⟩ := x
  obtain ⟨k2, p2, n2, b2, t2, q2, h2, g2⟩ := y
  unfold ruc at hx hy
  simp only at hx hy
  unfold execOp
  rw [hop]
  simp only [hx, hy]
  go_simp
  by_cases e1 : k1 = k2 <;> by_cases e2 : p1 = p2 <;> by_cases e3 : n1 = n2 <;> by_cases e4 : b1 = b2 <;> by_cases e5 : t1 = t2 <;> by_cases e6 : q1 = q2 <;> by_cases e7 : h1 = h2 <;> by_cases e8 : g1 = g2 <;> simp [e1, e2, e3, e4, e5, e6, e7, e8, Ru.mk.injEq]

theorem exec_neq (ρ : Operand → Value) (o : Oper) (p q : Operand) (ty : TypeId) (hop : o.op = .binOp .neq 36 p q ty) (x y : Ru) (hx : ρ p = .agg (ruc x).toArray) (hy : ρ q = .agg (ruc y).toArray) (w : World) : (execOp ρ o).run Try.prog w = .ok (.value (.bool (!decide (x = y)))) w := by
  obtain ⟨k1, p1, n1, b1, t1, q1, h1, g1⟩ := x
  obtain ⟨k2, p2, n2, b2, t2, q2, h2, g2⟩ := y
  unfold ruc at hx hy
  simp only at hx hy
  unfold execOp
  rw [hop]
  simp only [hx, hy]
  go_simp
  by_cases e1 : k1 = k2 <;> by_cases e2 : p1 = p2 <;> by_cases e3 : n1 = n2 <;> by_cases e4 : b1 = b2 <;> by_cases e5 : t1 = t2 <;> by_cases e6 : q1 = q2 <;> by_cases e7 : h1 = h2 <;> by_cases e8 : g1 = g2 <;> simp [e1, e2, e3, e4, e5, e6, e7, e8, Ru.mk.injEq]

theorem But.laterF {a b : World} (h : But (fun _ => False) a b) : Later a b := ⟨h.os, h.tape, h.output, h.size, fun i hi => h.block i hi (fun e => e)⟩

set_option maxHeartbeats 8000000 in
theorem radd9_any (base b : Nat) (v : Value) (l : List Ru) (x : Ru) (w : World) (hT : RL 67 base w b v l) (hx : wfR x) (hl : l.length ≤ 32) (hbs : base ≤ w.heap.size) :
    Calls Try.prog 40 #[.pointer (some ⟨b, 0, none⟩), .agg (ruc x).toArray] w fun e w' => e = .returned (.int .i64 (adE l x)) ∧ RLq 67 base w w' b v (adL l x) := by
  obtain ⟨i0, hi0, hz0, hz1, hz2⟩ := info_partsU info_rule
  have HR9 := hide (fun W => rright9_any x W hx)
  have lb0 : Later w (w.alloc (.cells (ruc x).toArray 36)) := (Below.refl _ _).alloc (Nat.le_refl _) _
  have rb := heap_alloc_new w (.cells (ruc x).toArray 36)
  obtain ⟨av, cv, rfl, _, _⟩ := (ownU_rd hT.2.2).slice
  have HNE : Hid (some b ≠ Value.ownBlock (.slice av l.length cv)) := fun e => hT.ne hT.2.1 (by decide) e.symm
  have hrd := ownU_rd hT.2.2
  have HRD := hide hrd
  clear hrd
  go_enter Try.func40, Try.ntmps40
  unfold ruc at rb
  have rk := block_cell rb
  unfold ruc
  go_wp2_with fail
  change Calls _ _ #[.agg (ruc x).toArray] (w.alloc (.cells (ruc x).toArray 36)) _
  unfold ruc at lb0
  unfold ruc
  generalize w.alloc _ = w0 at *
  refine (HR9.out w0).mono ?_
  rintro e w1 ⟨rfl, l1⟩
  have lz := lb0.trans l1
  cases hrt : rtB x with
  | false =>
    have hae : adE l x = 4 := by unfold adE; rw [if_pos hrt]
    have HAE := hide hae
    have HAL := hide (adL_no (l := l) (x := x) (by rw [hae]; omega))
    clear hae rk
    go_wp2_with fail
    go_ret
    exact ⟨by rw [HAE.out]; rfl, by rw [HAL.out]; exact RLq.same hT lz⟩
  | true =>
    have r1 := later_keep l1 rb
    have HRT := hide hrt
    clear rk hrt rb
    go_wp2_with fail
    go_loopw [5] (fun i wr => ∃ k : Nat, k ≤ l.length ∧ i = .int .i64 (k : Int) ∧ (∀ j (hj : j < l.length), j < k → l[j] ≠ x) ∧ Later w1 wr) (fun i _ => l.length - (intOf i).toNat)
    case atStart => exact ⟨0, by omega, rfl, fun j _ h => by omega, Later.refl _⟩
    case round =>
      obtain ⟨k, hk, rfl, hz, hbw⟩ := hrel
      have HZ := hide hz
      clear hz
      have lw := lz.trans hbw
      have hTr := hT.later lw
      have kT := block_cell hTr.2.1
      by_cases hlt : k < l.length
      · have hlt' : (k : Int) < l.length := by omega
        go_upto_region 8 with fail
        clear kT
        refine anyT_begin (R := But (fun _ => False)) 9 rfl (by kernel_rfl) ?_
        have ld : Later wr wr.drew := Later.drew wr
        have lwd := lw.trans ld
        have r1d := later_keep (hbw.trans ld) r1
        generalize wr.drew = Wd at *
        obtain ⟨bb, off, cp, e, _, _, hbb, hcs⟩ := (HRD.out.below lwd).cells (by omega)
        simp at e
        obtain ⟨rfl, rfl⟩ := e
        have hwsz := lwd.size
        have hTd := hT.later lwd
        generalize hgo : l[k] = y at *
        have ha : ∀ v1, But (fun _ => False) Wd v1 → ∀ j, v1.cell? ⟨w.heap.size, j, none⟩ = #[Value.int .i64 x.kind, .int .u8 x.proto, .int .u32 x.net, .int .i64 x.bits, .int .u32 x.to, .int .u16 x.port, .int .u32 x.host, .int .u16 x.hp][j]? := fun v1 hv => block_cell (later_keep hv.laterF r1d)
        have hb : ∀ v1, But (fun _ => False) Wd v1 → ∀ j, v1.cell? ⟨b, j, none⟩ = #[Value.slice (some ⟨bb, off, none⟩) l.length cv][j]? := fun v1 hv => block_cell (later_keep hv.laterF hTd.2.1)
        have hcc : ∀ i, i < 8 → ∀ v1, But (fun _ => False) Wd v1 → v1.cell? ⟨bb, off + k * 8 + i, none⟩ = (ruc y)[i]? := fun i hi v1 hv => (Below.cell (B := Wd.heap.size) hv.laterF (p := ⟨bb, off + k * 8 + i, none⟩) (Nat.lt_of_lt_of_le hbb hwsz)).trans (by have := hcs k hlt i hi; rw [hgo] at this; exact this)
        have c0 := hcc 0 (by omega)
        have c1 := hcc 1 (by omega)
        have c2 := hcc 2 (by omega)
        have c3 := hcc 3 (by omega)
        have c4 := hcc 4 (by omega)
        have c5 := hcc 5 (by omega)
        have c6 := hcc 6 (by omega)
        have c7 := hcc 7 (by omega)
        have HGO := hide hgo
        clear hcc hcs hgo
        simp only [ruc, List.getElem?_cons_zero, List.getElem?_cons_succ, Nat.add_zero] at c0 c1 c2 c3 c4 c5 c6 c7
        refine anyT_val (But.pre _) 0 rfl (by kernel_rfl) (by kernel_rfl) (by kernel_rfl) (fun _ _ _ _ h => h) rfl ?_; apply Exists.intro; refine ⟨fun v1 hv1 => ?_, ?_⟩; (· (go_simp; rfl)); simp only [Act.put, List.setIfInBounds_toArray, List.set_cons_zero, List.set_cons_succ]
        refine anyT_val (But.pre _) 1 rfl (by kernel_rfl) (by kernel_rfl) (by kernel_rfl) (fun _ _ _ _ h => h) rfl ?_; apply Exists.intro; refine ⟨fun v1 hv1 => ?_, ?_⟩; (· (go_simp; rfl)); simp only [Act.put, List.setIfInBounds_toArray, List.set_cons_zero, List.set_cons_succ]
        refine anyT_val (But.pre _) 2 rfl (by kernel_rfl) (by kernel_rfl) (by kernel_rfl) (fun _ _ _ _ h => h) rfl ?_; apply Exists.intro; refine ⟨fun v1 hv1 => ?_, ?_⟩; (· (go_simp; rfl)); simp only [Act.put, List.setIfInBounds_toArray, List.set_cons_zero, List.set_cons_succ]
        refine anyT_val (But.pre _) 3 rfl (by kernel_rfl) (by kernel_rfl) (by kernel_rfl) (fun _ _ _ _ h => h) rfl ?_; apply Exists.intro; refine ⟨fun v1 hv1 => ?_, ?_⟩; (· (go_simp; rfl)); simp only [Act.put, List.setIfInBounds_toArray, List.set_cons_zero, List.set_cons_succ]
        refine anyT_val (But.pre _) 4 rfl (by kernel_rfl) (by kernel_rfl) (by kernel_rfl) (fun _ _ _ _ h => h) rfl ?_; apply Exists.intro; refine ⟨fun v1 hv1 => ?_, ?_⟩; (· (go_simp; rfl)); simp only [Act.put, List.setIfInBounds_toArray, List.set_cons_zero, List.set_cons_succ]
        refine anyT_val (But.pre _) 5 rfl (by kernel_rfl) (by kernel_rfl) (by kernel_rfl) (fun _ _ _ _ h => h) rfl ?_; apply Exists.intro; refine ⟨fun v1 hv1 => ?_, ?_⟩; (· (go_simp; rfl)); simp only [Act.put, List.setIfInBounds_toArray, List.set_cons_zero, List.set_cons_succ]
        refine anyT_val (But.pre _) 6 rfl (by kernel_rfl) (by kernel_rfl) (by kernel_rfl) (fun _ _ _ _ h => h) rfl ?_; apply Exists.intro; refine ⟨fun v1 hv1 => ?_, ?_⟩; (· (go_simp; rfl)); simp only [Act.put, List.setIfInBounds_toArray, List.set_cons_zero, List.set_cons_succ]
        refine anyT_val (But.pre _) 7 rfl (by kernel_rfl) (by kernel_rfl) (by kernel_rfl) (fun _ _ _ _ h => h) rfl ?_; apply Exists.intro; refine ⟨fun v1 hv1 => ?_, ?_⟩; (· (go_simp; rfl)); simp only [Act.put, List.setIfInBounds_toArray, List.set_cons_zero, List.set_cons_succ]
        refine anyT_val (But.pre _) 8 rfl (by kernel_rfl) (by kernel_rfl) (by kernel_rfl) (fun _ _ _ _ h => h) rfl ⟨.bool (decide (y = x)), fun v1 hv1 => ?_, ?_⟩
        · exact exec_eql _ _ (.tmp 28) (.tmp 29) _ rfl y x rfl rfl v1
        simp only [Act.put, List.setIfInBounds_toArray, List.set_cons_zero, List.set_cons_succ]
        refine anyT_done (by kernel_rfl) ?_
        clear c0 c1 c2 c3 c4 c5 c6 c7 ha hb
        by_cases hxy : y = x
        · have hae : adE l x = 10 := by
            have : hasB x l = true := hasB_iff.2 (by rw [← hxy, ← HGO.out]; exact List.getElem_mem _)
            unfold adE
            rw [HRT.out, this]
            simp
          have HAE := hide hae
          have HAL := hide (adL_no (l := l) (x := x) (by rw [hae]; omega))
          rw [decide_eq_true hxy]
          clear hae hxy
          go_wp2_with fail
          go_ret
          exact ⟨by rw [HAE.out]; rfl, by rw [HAL.out]; exact RLq.same hT lwd⟩
        · rw [decide_eq_false hxy]
          have HXY := hide hxy
          clear hxy
          have lwd1 := hbw.trans ld
          go_wp2_with fail
          go_roundw
          case rel => exact ⟨k + 1, by omega, by go_num, fun j hj hjk => by by_cases h : j = k; (subst h; rw [HGO.out]; exact HXY.out); exact HZ.out j hj (by omega), lwd1⟩
          case measure => simp [intOf]; omega
      · obtain rfl : k = l.length := by omega
        have hhs : hasB x l = false := hasB_no (fun j hj => HZ.out j hj hj)
        have r2 := later_keep hbw r1
        by_cases hfull : 32 ≤ l.length
        · have hae : adE l x = 9 := by unfold adE; rw [HRT.out, hhs, if_neg (by simp), if_neg (by simp), if_pos hfull]
          have HAE := hide hae
          have HAL := hide (adL_no (l := l) (x := x) (by rw [hae]; omega))
          have hf' : (32 : Int) ≤ l.length := by omega
          clear hae hhs
          go_wp2_with fail
          go_ret
          exact ⟨by rw [HAE.out]; rfl, by rw [HAL.out]; exact RLq.same hT lw⟩
        · have hae : adE l x = 0 := by unfold adE; rw [HRT.out, hhs, if_neg (by simp), if_neg (by simp), if_neg hfull]
          have HAE := hide hae
          have HAL := hide (adL_yes (l := l) (x := x) hae)
          have hf' : ¬ (32 : Int) ≤ l.length := by omega
          clear hae hhs
          go_wp2_with fail
          clear kT
          have lbx := lw
          have rb := r2
          generalize hwx : wr = wx at *
          clear hwx
          refine anyT_begin (R := But (fun g => g = b ∨ Value.ownBlock (.slice av l.length cv) = some g)) 11 rfl (by kernel_rfl) ?_
          have ld : Later wx wx.drew := Later.drew wx
          have LD := lbx.trans ld
          have rd0 := later_keep ld rb
          generalize wx.drew = Wd at *
          have hTd := hT.later LD
          have hnb : w.heap.size ≠ b := fun e => by have := hT.blt; omega
          have hnv : Value.ownBlock (.slice av l.length cv) ≠ some w.heap.size := fun e => by have := (hT.lt e).2; omega
          have ha : ∀ v1, But (fun g => g = b ∨ Value.ownBlock (.slice av l.length cv) = some g) Wd v1 → ∀ j, v1.cell? ⟨w.heap.size, j, none⟩ = #[Value.int .i64 x.kind, .int .u8 x.proto, .int .u32 x.net, .int .i64 x.bits, .int .u32 x.to, .int .u16 x.port, .int .u32 x.host, .int .u16 x.hp][j]? := fun v1 hv => block_cell ((hv.block w.heap.size (Array.getElem?_eq_some_iff.1 rd0).1 (fun hE => hE.elim hnb hnv)).trans rd0)
          refine anyT_val (But.pre _) 0 rfl (by kernel_rfl) (by kernel_rfl) (by kernel_rfl) (fun _ _ _ _ h => h) rfl ?_; apply Exists.intro; refine ⟨fun v1 hv1 => ?_, ?_⟩; (· (go_simp; rfl)); simp only [Act.put, List.setIfInBounds_toArray, List.set_cons_zero, List.set_cons_succ]
          refine anyT_val (But.pre _) 1 rfl (by kernel_rfl) (by kernel_rfl) (by kernel_rfl) (fun _ _ _ _ h => h) rfl ?_; apply Exists.intro; refine ⟨fun v1 hv1 => ?_, ?_⟩; (· (go_simp; rfl)); simp only [Act.put, List.setIfInBounds_toArray, List.set_cons_zero, List.set_cons_succ]
          refine anyT_val (But.pre _) 2 rfl (by kernel_rfl) (by kernel_rfl) (by kernel_rfl) (fun _ _ _ _ h => h) rfl ?_; apply Exists.intro; refine ⟨fun v1 hv1 => ?_, ?_⟩; (· (go_simp; rfl)); simp only [Act.put, List.setIfInBounds_toArray, List.set_cons_zero, List.set_cons_succ]
          refine anyT_val (But.pre _) 3 rfl (by kernel_rfl) (by kernel_rfl) (by kernel_rfl) (fun _ _ _ _ h => h) rfl ?_; apply Exists.intro; refine ⟨fun v1 hv1 => ?_, ?_⟩; (· (go_simp; rfl)); simp only [Act.put, List.setIfInBounds_toArray, List.set_cons_zero, List.set_cons_succ]
          refine anyT_val (But.pre _) 5 rfl (by kernel_rfl) (by kernel_rfl) (by kernel_rfl) (fun _ _ _ _ h => h) rfl ?_; apply Exists.intro; refine ⟨fun v1 hv1 => ?_, ?_⟩; (· (go_simp; rfl)); simp only [Act.put, List.setIfInBounds_toArray, List.set_cons_zero, List.set_cons_succ]
          clear ha
          have kd := block_cell hTd.2.1
          refine anyT_two 4 6 rfl rfl (by kernel_rfl) rfl rfl ?_ ?_
          · unfold Oper.wp
            go_simp
            refine ⟨But.refl _ _, ?_⟩
            clear kd
            refine anyT_one 6 rfl (by kernel_rfl) rfl ?_
            unfold Oper.wp
            go_simp
            have l1 : Later Wd (Wd.alloc (.cells (ruc x).toArray 36)) := (Below.refl _ _).alloc (Nat.le_refl _) _
            have HN1 := new_rowU Wd x
            have LL := LD.trans l1
            refine ⟨But.of l1, ?_⟩
            change wpAnyT _ _ _ _ _ _ _ _ (Wd.alloc (.cells (ruc x).toArray 36))
            generalize Wd.alloc (.cells (ruc x).toArray 36) = W1 at *
            generalize Wd.heap.size = gn at *
            have hT1 := hT.later LL
            have hO1 := hT1.2.2
            have hbs1 := Nat.le_trans hbs LL.size
            refine anyT_one 7 rfl (by kernel_rfl) rfl ?_
            refine wp_append_lies W1 (.tmp 41) (.tmp 43) 41 rfl base 36 i0 (.agg #[.int .i64 0, .int .u8 0, .int .u32 0, .int .i64 0, .int .u32 0, .int .u16 0, .int .u32 0, .int .u16 0]) 8 40 Try.underlying41 hi0 hz0 hz1 hz2 rfl (by decide) (.slice av l.length cv) l.length (rus l) rfl hO1 ⟨gn, 0, none⟩ 1 1 (ruc x) rfl rfl HN1 (by intro u hu; simp only [ruc, List.mem_cons, List.not_mem_nil, or_false] at hu; rcases hu with rfl | rfl | rfl | rfl | rfl | rfl | rfl | rfl <;> rfl) (by omega) (by unfold maxLen; omega) (by omega) hbs1 _ rfl ?_
            intro g' cap' W6 hrow6 hg6 hpl hlt6
            have hb6 : But (fun g => g = b ∨ Value.ownBlock (.slice av l.length cv) = some g) W1 W6 := ⟨hg6.os, hg6.tape, hg6.output, hg6.size, fun k hk he => hg6.block k hk (fun e => he (.inr e.symm))⟩
            refine ⟨hb6, ?_⟩
            simp only [Act.put, List.setIfInBounds_toArray, List.set_cons_zero, List.set_cons_succ]
            have h6 : W6.heap[b]? = some (.cells #[.slice av l.length cv] 67 (0, 0)) := (hg6.block b (Array.getElem?_eq_some_iff.1 hT1.2.1).1 HNE.out).trans hT1.2.1
            have k6 := block_cell h6
            have f6 := block_frozen h6
            refine anyT_val (But.pre _) 8 rfl (by kernel_rfl) (by kernel_rfl) (by kernel_rfl) (fun _ _ _ _ h => h) rfl ?_; apply Exists.intro; refine ⟨fun v1 hv1 => ?_, ?_⟩; (· (go_simp; rfl)); simp only [Act.put, List.setIfInBounds_toArray, List.set_cons_zero, List.set_cons_succ]
            refine anyT_val (But.pre _) 9 rfl (by kernel_rfl) (by kernel_rfl) (by kernel_rfl) (fun _ _ _ _ h => h) rfl ?_; apply Exists.intro; refine ⟨fun v1 hv1 => ?_, ?_⟩; (· (go_simp; rfl)); simp only [Act.put, List.setIfInBounds_toArray, List.set_cons_zero, List.set_cons_succ]
            refine anyT_one 10 rfl (by kernel_rfl) rfl ?_
            unfold Oper.wp
            go_simp
            generalize hV : W6.setCell ⟨b, 0, none⟩ _ = V
            have hV3 := heap_set1 h6 0 (.slice (some ⟨g', 0, none⟩) (l.length + 1) cap')
            rw [hV] at hV3
            have hbV2 : But (fun g => g = b ∨ Value.ownBlock (.slice av l.length cv) = some g) W6 V := by rw [← hV]; exact (But.refl (fun g => g = b ∨ Value.ownBlock (.slice av l.length cv) = some g) _).setCell (p := ⟨b, 0, none⟩) (.inl rfl) _
            have hbV1 : But (fun g => g = b) W6 V := by rw [← hV]; exact (But.refl (fun g => g = b) _).setCell (p := ⟨b, 0, none⟩) rfl _
            refine ⟨hbV2, ?_⟩
            clear hV k6 f6
            refine anyT_done (by kernel_rfl) ?_
            have hfin : RLq 67 base w V b (.slice av l.length cv) (l ++ [x]) := by
              refine ⟨.slice (some ⟨g', 0, none⟩) (l.length + 1) cap', ⟨hT.1, hV3, ?_⟩, (But.of LL).trans (hb6.trans hbV2), ?_⟩
              · rw [rus_snoc, List.length_append, List.length_singleton]
                obtain ⟨q1, ⟨q2, q3⟩ | ⟨g, cap, cur, hv, hgb, hh, q⟩⟩ := hrow6
                · simp at q2
                · refine ⟨q1, .inr ⟨g, cap, cur, hv, hgb, (hbV1.block g (Array.getElem?_eq_some_iff.1 hh).1 (fun e => ?_)).trans hh, q⟩⟩
                  subst e
                  rw [h6] at hh
                  simp at hh
              · rcases hpl with h | h
                · exact .inl h.symm
                · refine .inr (fun g hg => ?_)
                  have : g' = g := by simpa [Value.ownBlock] using hg
                  subst this
                  have := LL.size
                  omega
            have HF := hide hfin
            clear hfin
            go_wp2_with fail
            go_ret
            exact ⟨by rw [HAE.out]; rfl, by rw [HAL.out]; exact HF.out⟩
          · unfold Oper.wp
            go_simp
            have l1 : Later Wd (Wd.alloc (.cells (ruc x).toArray 36)) := (Below.refl _ _).alloc (Nat.le_refl _) _
            have HN1 := new_rowU Wd x
            have LL := LD.trans l1
            refine ⟨But.of l1, ?_⟩
            have k1 := block_cell (later_keep l1 hTd.2.1)
            clear kd
            change wpAnyT _ _ _ _ _ _ _ _ (Wd.alloc (.cells (ruc x).toArray 36))
            generalize Wd.alloc (.cells (ruc x).toArray 36) = W1 at *
            generalize Wd.heap.size = gn at *
            refine anyT_one 4 rfl (by kernel_rfl) rfl ?_
            unfold Oper.wp
            go_simp
            refine ⟨But.refl _ _, ?_⟩
            clear k1
            have hT1 := hT.later LL
            have hO1 := hT1.2.2
            have hbs1 := Nat.le_trans hbs LL.size
            refine anyT_one 7 rfl (by kernel_rfl) rfl ?_
            refine wp_append_lies W1 (.tmp 41) (.tmp 43) 41 rfl base 36 i0 (.agg #[.int .i64 0, .int .u8 0, .int .u32 0, .int .i64 0, .int .u32 0, .int .u16 0, .int .u32 0, .int .u16 0]) 8 40 Try.underlying41 hi0 hz0 hz1 hz2 rfl (by decide) (.slice av l.length cv) l.length (rus l) rfl hO1 ⟨gn, 0, none⟩ 1 1 (ruc x) rfl rfl HN1 (by intro u hu; simp only [ruc, List.mem_cons, List.not_mem_nil, or_false] at hu; rcases hu with rfl | rfl | rfl | rfl | rfl | rfl | rfl | rfl <;> rfl) (by omega) (by unfold maxLen; omega) (by omega) hbs1 _ rfl ?_
            intro g' cap' W6 hrow6 hg6 hpl hlt6
            have hb6 : But (fun g => g = b ∨ Value.ownBlock (.slice av l.length cv) = some g) W1 W6 := ⟨hg6.os, hg6.tape, hg6.output, hg6.size, fun k hk he => hg6.block k hk (fun e => he (.inr e.symm))⟩
            refine ⟨hb6, ?_⟩
            simp only [Act.put, List.setIfInBounds_toArray, List.set_cons_zero, List.set_cons_succ]
            have h6 : W6.heap[b]? = some (.cells #[.slice av l.length cv] 67 (0, 0)) := (hg6.block b (Array.getElem?_eq_some_iff.1 hT1.2.1).1 HNE.out).trans hT1.2.1
            have k6 := block_cell h6
            have f6 := block_frozen h6
            refine anyT_val (But.pre _) 8 rfl (by kernel_rfl) (by kernel_rfl) (by kernel_rfl) (fun _ _ _ _ h => h) rfl ?_; apply Exists.intro; refine ⟨fun v1 hv1 => ?_, ?_⟩; (· (go_simp; rfl)); simp only [Act.put, List.setIfInBounds_toArray, List.set_cons_zero, List.set_cons_succ]
            refine anyT_val (But.pre _) 9 rfl (by kernel_rfl) (by kernel_rfl) (by kernel_rfl) (fun _ _ _ _ h => h) rfl ?_; apply Exists.intro; refine ⟨fun v1 hv1 => ?_, ?_⟩; (· (go_simp; rfl)); simp only [Act.put, List.setIfInBounds_toArray, List.set_cons_zero, List.set_cons_succ]
            refine anyT_one 10 rfl (by kernel_rfl) rfl ?_
            unfold Oper.wp
            go_simp
            generalize hV : W6.setCell ⟨b, 0, none⟩ _ = V
            have hV3 := heap_set1 h6 0 (.slice (some ⟨g', 0, none⟩) (l.length + 1) cap')
            rw [hV] at hV3
            have hbV2 : But (fun g => g = b ∨ Value.ownBlock (.slice av l.length cv) = some g) W6 V := by rw [← hV]; exact (But.refl (fun g => g = b ∨ Value.ownBlock (.slice av l.length cv) = some g) _).setCell (p := ⟨b, 0, none⟩) (.inl rfl) _
            have hbV1 : But (fun g => g = b) W6 V := by rw [← hV]; exact (But.refl (fun g => g = b) _).setCell (p := ⟨b, 0, none⟩) rfl _
            refine ⟨hbV2, ?_⟩
            clear hV k6 f6
            refine anyT_done (by kernel_rfl) ?_
            have hfin : RLq 67 base w V b (.slice av l.length cv) (l ++ [x]) := by
              refine ⟨.slice (some ⟨g', 0, none⟩) (l.length + 1) cap', ⟨hT.1, hV3, ?_⟩, (But.of LL).trans (hb6.trans hbV2), ?_⟩
              · rw [rus_snoc, List.length_append, List.length_singleton]
                obtain ⟨q1, ⟨q2, q3⟩ | ⟨g, cap, cur, hv, hgb, hh, q⟩⟩ := hrow6
                · simp at q2
                · refine ⟨q1, .inr ⟨g, cap, cur, hv, hgb, (hbV1.block g (Array.getElem?_eq_some_iff.1 hh).1 (fun e => ?_)).trans hh, q⟩⟩
                  subst e
                  rw [h6] at hh
                  simp at hh
              · rcases hpl with h | h
                · exact .inl h.symm
                · refine .inr (fun g hg => ?_)
                  have : g' = g := by simpa [Value.ownBlock] using hg
                  subst this
                  have := LL.size
                  omega
            have HF := hide hfin
            clear hfin
            go_wp2_with fail
            go_ret
            exact ⟨by rw [HAE.out]; rfl, by rw [HAL.out]; exact HF.out⟩
end Go.Proofs.Ytgjemeibaghfaaa
