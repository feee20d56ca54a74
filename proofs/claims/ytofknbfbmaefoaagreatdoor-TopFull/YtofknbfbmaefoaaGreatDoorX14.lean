import Derived.Test.YtofknbfbmaefoaaGreatDoorX15
import Derived.Test.YtofknbfbmaefoaaGreatDoorX19
import Derived.ScopeJumps
namespace Go.Proofs.YtofknbfbmaefoaaGreatDoor
set_option maxHeartbeats 4000000
open Go.RowKit Go.Shelf
set_option maxRecDepth 100000
set_option linter.unusedVariables false
set_option linter.unusedSimpArgs false
def RdO (n₀ : Nat) (W : World) (sv : Value) (os : List Opt) : Prop :=
 (∃ a cap, sv = .slice a 0 cap ∧ os = [] ∧ cap ≤ 9223372036854775807 ∧ (a = none → cap = 0)) ∨
 ∃ b off cap, sv = .slice (some ⟨b, off, none⟩) os.length cap ∧ os ≠ [] ∧ os.length ≤ cap ∧ cap ≤ 9223372036854775807 ∧ b < n₀ ∧
  ∀ j, j < os.length → ∃ s, W.cell? ⟨b, off + j * 2, none⟩ = some (.int .u8 (os[j]?.getD (0, [])).1) ∧ W.cell? ⟨b, off + j * 2 + 1, none⟩ = some s ∧ Rd n₀ W s (os[j]?.getD (0, [])).2
theorem RdO.below {n₀ : Nat} {A B : World} (h : Below n₀ A B) {sv : Value} {os : List Opt} : RdO n₀ A sv os → RdO n₀ B sv os
 | .inl e => .inl e
 | .inr ⟨b, off, cap, e, hne, hl, hm, hb, hc⟩ => .inr ⟨b, off, cap, e, hne, hl, hm, hb, fun j hj => let ⟨s, h1, h2, h3⟩ := hc j hj; ⟨s, (h.cell (p := ⟨b, off + j * 2, none⟩) hb).trans h1, (h.cell (p := ⟨b, off + j * 2 + 1, none⟩) hb).trans h2, h3.below h⟩⟩
theorem RdO.mono {n₀ n₁ : Nat} {A : World} (h : n₀ ≤ n₁) {sv : Value} {os : List Opt} : RdO n₀ A sv os → RdO n₁ A sv os
 | .inl e => .inl e
 | .inr ⟨b, off, cap, e, hne, hl, hm, hb, hc⟩ => .inr ⟨b, off, cap, e, hne, hl, hm, Nat.lt_of_lt_of_le hb h, fun j hj => let ⟨s, h1, h2, h3⟩ := hc j hj; ⟨s, h1, h2, h3.mono h⟩⟩
theorem RdO.slice {n₀ : Nat} {A : World} {sv : Value} {os : List Opt} : RdO n₀ A sv os → ∃ a cap, sv = .slice a os.length cap ∧ os.length ≤ cap ∧ cap ≤ 9223372036854775807
 | .inl ⟨a, cap, e, hz, hm, _⟩ => ⟨a, cap, by rw [e, hz]; rfl, by rw [hz]; exact Nat.zero_le _, hm⟩
 | .inr ⟨b, off, cap, e, _, hl, hm, _⟩ => ⟨_, cap, e, hl, hm⟩
theorem RdO.cells {n₀ : Nat} {W : World} {sv : Value} {os : List Opt} (h : RdO n₀ W sv os) (hne : 0 < os.length) : ∃ b off cap, sv = .slice (some ⟨b, off, none⟩) os.length cap ∧ os.length ≤ cap ∧ cap ≤ 9223372036854775807 ∧ b < n₀ ∧
  ∀ j, j < os.length → ∃ s, W.cell? ⟨b, off + j * 2, none⟩ = some (.int .u8 (os[j]?.getD (0, [])).1) ∧ W.cell? ⟨b, off + j * 2 + 1, none⟩ = some s ∧ Rd n₀ W s (os[j]?.getD (0, [])).2 := by
 rcases h with ⟨a, cap, _, rfl, _⟩ | ⟨b, off, cap, e, _, hl, hm, hb, hc⟩
 ·simp at hne
 ·exact ⟨b, off, cap, e, hl, hm, hb, hc⟩
section
variable {P : Program} {l : List Oper} {Q : Exit → Act → World → Prop} {fuel : Nat} {listed : Array Bool} {a : Act} {w : World} {R : World → World → Prop}
end
theorem HSt.below {tl : List Value} {t : TypeId} {ub : Nat} {N : Nat → Prop} {ys : List Int} {W W' : World} (h : HSt tl t ub N ys W) (l : Later W W') : HSt tl t ub N ys W' := by
 obtain ⟨v, h1, h2, h3⟩ := h
 refine ⟨v, (l.block ub (bl9 h1)).trans h1, ⟨h2.1, h2.2.imp id ?_⟩, h3⟩
 rintro ⟨g, cap, cur, e, hg, hh, r⟩
 exact ⟨g, cap, cur, e, hg, (l.block g (bl9 hh)).trans hh, r⟩
theorem HSt.cell {tl : List Value} {t : TypeId} {ub : Nat} {N : Nat → Prop} {ys : List Int} {W : World} (h : HSt tl t ub N ys W) : ∃ a c, W.cell? ⟨ub, 0, none⟩ = some (.slice a ys.length c) ∧ Ow (ub + 1) W (.slice a ys.length c) ys ∧ ys.length ≤ c := by
 obtain ⟨v, h1, h2, h3⟩ := h
 have hO := Ow.of_row h2
 obtain ⟨a, c, rfl, hc, _⟩ := hO.slice
 exact ⟨a, c, by have := block_cell h1 0; simpa using this, hO, hc⟩
attribute [local go_sem] Oper.semAt_some
theorem uncons {α : Type} {n : Nat} {l : List α} (h : l.length = n + 1) : ∃ a r, l = a :: r ∧ r.length = n := by
 cases l with
 | nil => simp at h
 | cons a r => exact ⟨a, r, rfl, by simpa using h⟩
theorem list49 {α : Type} {l : List α} (h : l.length = 49) : ∃ v0 v1 v2 v3 v4 v5 v6 v7 v8 v9 v10 v11 v12 v13 v14 v15 v16 v17 v18 v19 v20 v21 v22 v23 v24 v25 v26 v27 v28 v29 v30 v31 v32 v33 v34 v35 v36 v37 v38 v39 v40 v41 v42 v43 v44 v45 v46 v47 v48, l = [v0, v1, v2, v3, v4, v5, v6, v7, v8, v9, v10, v11, v12, v13, v14, v15, v16, v17, v18, v19, v20, v21, v22, v23, v24, v25, v26, v27, v28, v29, v30, v31, v32, v33, v34, v35, v36, v37, v38, v39, v40, v41, v42, v43, v44, v45, v46, v47, v48] := by
 obtain ⟨v0, l0, rfl, h0⟩ := uncons h
 obtain ⟨v1, l1, rfl, h1⟩ := uncons h0
 obtain ⟨v2, l2, rfl, h2⟩ := uncons h1
 obtain ⟨v3, l3, rfl, h3⟩ := uncons h2
 obtain ⟨v4, l4, rfl, h4⟩ := uncons h3
 obtain ⟨v5, l5, rfl, h5⟩ := uncons h4
 obtain ⟨v6, l6, rfl, h6⟩ := uncons h5
 obtain ⟨v7, l7, rfl, h7⟩ := uncons h6
 obtain ⟨v8, l8, rfl, h8⟩ := uncons h7
 obtain ⟨v9, l9, rfl, h9⟩ := uncons h8
 obtain ⟨v10, l10, rfl, h10⟩ := uncons h9
 obtain ⟨v11, l11, rfl, h11⟩ := uncons h10
 obtain ⟨v12, l12, rfl, h12⟩ := uncons h11
 obtain ⟨v13, l13, rfl, h13⟩ := uncons h12
 obtain ⟨v14, l14, rfl, h14⟩ := uncons h13
 obtain ⟨v15, l15, rfl, h15⟩ := uncons h14
 obtain ⟨v16, l16, rfl, h16⟩ := uncons h15
 obtain ⟨v17, l17, rfl, h17⟩ := uncons h16
 obtain ⟨v18, l18, rfl, h18⟩ := uncons h17
 obtain ⟨v19, l19, rfl, h19⟩ := uncons h18
 obtain ⟨v20, l20, rfl, h20⟩ := uncons h19
 obtain ⟨v21, l21, rfl, h21⟩ := uncons h20
 obtain ⟨v22, l22, rfl, h22⟩ := uncons h21
 obtain ⟨v23, l23, rfl, h23⟩ := uncons h22
 obtain ⟨v24, l24, rfl, h24⟩ := uncons h23
 obtain ⟨v25, l25, rfl, h25⟩ := uncons h24
 obtain ⟨v26, l26, rfl, h26⟩ := uncons h25
 obtain ⟨v27, l27, rfl, h27⟩ := uncons h26
 obtain ⟨v28, l28, rfl, h28⟩ := uncons h27
 obtain ⟨v29, l29, rfl, h29⟩ := uncons h28
 obtain ⟨v30, l30, rfl, h30⟩ := uncons h29
 obtain ⟨v31, l31, rfl, h31⟩ := uncons h30
 obtain ⟨v32, l32, rfl, h32⟩ := uncons h31
 obtain ⟨v33, l33, rfl, h33⟩ := uncons h32
 obtain ⟨v34, l34, rfl, h34⟩ := uncons h33
 obtain ⟨v35, l35, rfl, h35⟩ := uncons h34
 obtain ⟨v36, l36, rfl, h36⟩ := uncons h35
 obtain ⟨v37, l37, rfl, h37⟩ := uncons h36
 obtain ⟨v38, l38, rfl, h38⟩ := uncons h37
 obtain ⟨v39, l39, rfl, h39⟩ := uncons h38
 obtain ⟨v40, l40, rfl, h40⟩ := uncons h39
 obtain ⟨v41, l41, rfl, h41⟩ := uncons h40
 obtain ⟨v42, l42, rfl, h42⟩ := uncons h41
 obtain ⟨v43, l43, rfl, h43⟩ := uncons h42
 obtain ⟨v44, l44, rfl, h44⟩ := uncons h43
 obtain ⟨v45, l45, rfl, h45⟩ := uncons h44
 obtain ⟨v46, l46, rfl, h46⟩ := uncons h45
 obtain ⟨v47, l47, rfl, h47⟩ := uncons h46
 obtain ⟨v48, l48, rfl, h48⟩ := uncons h47
 obtain rfl : l48 = [] := List.eq_nil_of_length_eq_zero h48
 exact ⟨v0, v1, v2, v3, v4, v5, v6, v7, v8, v9, v10, v11, v12, v13, v14, v15, v16, v17, v18, v19, v20, v21, v22, v23, v24, v25, v26, v27, v28, v29, v30, v31, v32, v33, v34, v35, v36, v37, v38, v39, v40, v41, v42, v43, v44, v45, v46, v47, v48, rfl⟩
theorem notZero_any (x : Int) (w : World) : Calls Tryz.prog 273 #[.int .u8 x] w fun e w' => e = .returned (.bool (x != 0)) ∧ w' = w := by
 go_enter Tryz.func273, Tryz.ntmps273
 go_wp2
 go_ret
 exact ⟨rfl, rfl⟩
theorem idxb_any (n₀ : Nat) (sv : Value) (zs : List Int) (w : World) (hI : Rd n₀ w sv zs) (hl : zs.length ≤ 140737488355328) :
  Calls Tryz.prog 281 #[sv, .func (.func 273) #[] #[]] w fun e w' => w' = w ∧ (((∀ x ∈ zs, x = 0) ∧ e = .returned (.int .i64 (-1))) ∨ ((¬ ∀ x ∈ zs, x = 0) ∧ ∃ k : Nat, k < zs.length ∧ e = .returned (.int .i64 (k : Int)))) := by
 obtain ⟨a, cap, rfl, hc1, hc2⟩ := hI.slice
 go_enter Tryz.func281, Tryz.ntmps281
 go_wp2
 go_loopw [8] (fun i wr => ∃ k : Nat, k ≤ zs.length ∧ i = .int .i64 (k : Int) ∧ (∀ j, j < k → zs[j]?.getD 0 = 0) ∧ wr = w) (fun i _ => zs.length - (intOf i).toNat)
 case atStart => exact ⟨0, by omega, rfl, fun j h => by omega, rfl⟩
 case round =>
  obtain ⟨k, hk, rfl, hz, rfl⟩ := hrel
  by_cases hlt : k < zs.length
  ·obtain ⟨b, off, cp, e, _, _, hbb, hcs⟩ := hI.cells (by omega)
   simp at e
   obtain ⟨rfl, rfl⟩ := e
   have c0 := hcs k hlt
   have hlt' : (k : Int) < zs.length := by omega
   have HX : Hid (zs[k]?.getD 0 = zs[k]?.getD 0) := rfl
   generalize hx : zs[k]?.getD 0 = x at c0
   have HXX := hide hx
   have HZ := hide hz
   clear hx hcs hz
   go_wp2_with fail
   refine (notZero_any x _).mono ?_
   rintro e w' ⟨rfl, rfl⟩
   cases hx0 : (x != 0) with
   | true =>
    have hne : x ≠ 0 := by simpa using hx0
    clear hx0
    go_wp2_with fail
    go_ret
    refine ⟨rfl, .inr ⟨fun h => hne ?_, k, hlt, rfl⟩⟩
    rw [← HXX.out]
    have := h (zs[k]?.getD 0) (by simp [hlt])
    exact this
   | false =>
    have hne : x = 0 := by simpa using hx0
    have HNE := hide hne
    clear hx0 hne
    go_wp2_with fail
    go_roundw
    case rel => exact ⟨k + 1, by omega, by go_num, fun j hj => by by_cases h : j = k; (subst h; rw [HXX.out]; exact HNE.out); exact HZ.out j (by omega), trivial⟩
    case measure => simp [intOf]; omega
  ·obtain rfl : k = zs.length := by omega
   have HZ := hide hz
   clear hz
   go_wp2_with fail
   go_ret
   refine ⟨rfl, .inl ⟨fun x hx => ?_, rfl⟩⟩
   obtain ⟨j, hj, rfl⟩ := List.getElem_of_mem hx
   have := HZ.out j hj
   simpa [hj] using this
def azb (zs : List Int) : Bool := decide (∀ x ∈ zs, x = 0)
theorem blank_any (n₀ : Nat) (sv : Value) (zs : List Int) (w : World) (hI : Rd n₀ w sv zs) (hl : zs.length ≤ 140737488355328) :
  Calls Tryz.prog 253 #[sv] w fun e w' => e = .returned (.bool (azb zs)) ∧ w' = w := by
 obtain ⟨a, cap, rfl, hc1, hc2⟩ := hI.slice
 have hcf : Calls Tryz.prog 272 #[.slice a zs.length cap, .func (.func 273) #[] #[]] w fun e w' => e = .returned (.bool (!azb zs)) ∧ w' = w := by
  go_enter Tryz.func272, Tryz.ntmps272
  go_wp2_with fail
  refine (idxb_any n₀ _ zs w hI hl).mono ?_
  rintro e w' ⟨rfl, ⟨hz, rfl⟩ | ⟨hz, k, hk, rfl⟩⟩
  ·go_wp2
   go_ret
   exact ⟨by unfold azb; rw [decide_eq_true hz]; rfl, rfl⟩
  ·go_wp2
   go_ret
   refine ⟨?_, rfl⟩
   unfold azb
   rw [decide_eq_false hz]
   simp
 go_enter Tryz.func253, Tryz.ntmps253
 go_wp2_with fail
 refine hcf.mono ?_
 rintro e w' ⟨rfl, rfl⟩
 go_wp2
 go_ret
 exact ⟨by simp, rfl⟩
abbrev zop : List Value := [.int .u8 0, .slice none 0 0]
theorem optionOf_any (sv : Value) (zs : List Int) (w : World) (hI : Rd w.heap.size w sv zs) (hB : Mt.By zs) (hl : zs.length ≤ 140737488355328) (h1 : 0 < zs.length) (h2 : zs[0]?.getD 0 ≠ 1 → 2 ≤ zs.length) :
  Calls Tryz.prog 254 #[sv] w fun e w' => Below w.heap.size w w' ∧ ∃ s, e = .returned (.agg #[.int .u8 (zs[0]?.getD 0), s]) ∧ Ow w.heap.size w' s (if zs[0]?.getD 0 = 1 then [] else zs.drop 2) := by
 obtain ⟨b, off, cap, rfl, hc1, hc2, hbb, hcs⟩ := hI.cells h1
 have d0 := hcs 0 h1
 rw [Nat.add_zero] at d0
 clear hcs
 have hb0 : Below w.heap.size w (w.alloc (.cells zop.toArray 268)) := (Below.refl _ _).alloc (Nat.le_refl _) _
 have r0 : (w.alloc (.cells zop.toArray 268)).heap[w.heap.size]? = some (.cells zop.toArray 268 (0, 0)) := heap_alloc_new _ _
 have hs0 : (w.alloc (.cells zop.toArray 268)).heap.size = w.heap.size + 1 := by simp
 have dW := (hb0.cell (p := ⟨b, off, none⟩) hbb).trans d0
 have R0 := hide r0
 have HS := hide hs0
 clear r0 hs0 d0
 have i0 : (0 : Int) < zs.length := by omega
 generalize hx : zs[0]?.getD 0 = x at *
 have HX := hide hx
 clear hx
 by_cases c1 : x = 1
 ·have t1 : (x == 1) = true := by simp [c1]
  have C1 := hide c1
  clear c1 h2
  go_enter Tryz.func254, Tryz.ntmps254
  go_wp2_with fail
  exact bodyPost_ret (v := .agg #[.int .u8 1, .slice none 0 0]) (by simp [results, Tryz.results254, go_sem]) rfl ⟨by simpa using (Below.refl w.heap.size w).alloc (Nat.le_refl _) _, .slice none 0 0, rfl, .inl ⟨rfl, rfl⟩⟩
 ·have t1 : (x == 1) = false := by simp [c1]
  have C1 := hide c1
  have h22 := h2 c1
  clear c1 h2
  have i2 : (2 : Int) ≤ zs.length := by omega
  have i2c : (zs.length : Int) ≤ cap := by omega
  go_enter Tryz.func254, Tryz.ntmps254
  go_upto_region 3 with fail
  generalize w.alloc (.cells zop.toArray 268) = W0 at *
  refine anyT_begin (R := But (fun b => b = w.heap.size)) 8 rfl (by kernel_rfl) ?_
  have hd : Later W0 W0.drew := Later.drew W0
  have hb1 := hb0.trans (hd.mono hb0.size)
  have r1 := later_keep hd R0.out
  have hs1 : w.heap.size + 1 ≤ W0.drew.heap.size := by have := hd.size; have := HS.out; omega
  have dV : ∀ v1, But (fun b => b = w.heap.size) W0.drew v1 → v1.cell? ⟨b, off, none⟩ = some (.int .u8 x) := fun v1 h => h.cell ((hd.cell dW)) (by simp; omega)
  clear dW R0 HS
  generalize W0.drew = W1 at *
  refine tV (But.pre _) 0 rfl rfl ⟨_, fun v h => by (go_simp; rfl), ?_⟩; simp only [Act.put, sA, sB, sC]
  refine tV (But.pre _) 1 rfl rfl ⟨_, fun v h => by (go_simp; rfl), ?_⟩; simp only [Act.put, sA, sB, sC]
  refine tV (But.pre _) 2 rfl rfl ⟨_, fun v h => by (go_simp; rfl), ?_⟩; simp only [Act.put, sA, sB, sC]
  refine tV (But.pre _) 3 rfl rfl ⟨_, fun v h => by (go_simp; rfl), ?_⟩; simp only [Act.put, sA, sB, sC]
  refine tV (But.pre _) 4 rfl rfl ⟨_, fun v h => by (go_simp; rfl), ?_⟩; simp only [Act.put, sA, sB, sC]
  have hs8 := (hI.below hb1).cutAt 2 (by omega)
  generalize (if cap = 2 then some (⟨b, off, none⟩ : Addr) else some ⟨b, off + 2, none⟩) = ad2 at *
  clear dV
  refine anyT_one 5 rfl (by kernel_rfl) rfl ?_
  refine wp_enter 84 #[.slice ad2 (zs.length - 2) (cap - 2)] (by go_simp) ?_
  refine (cloneb_any _ (zs.drop 2) W1 (by simp; omega) (hs8.mono hb1.size)).mono ?_
  rw [List.length_drop]
  rintro e W2 ⟨a2, c2, rfl, hO2, hb2⟩
  refine ⟨But.of hb2, ?_⟩
  simp only [Act.put, sA, sB, sC]
  have r2 := later_keep hb2 r1
  have R2 := block_cell r2
  have F2 := block_frozen r2
  have hw2 := hb1.trans (hb2.mono hb1.size)
  refine anyT_one 6 rfl (by kernel_rfl) rfl ?_
  unfold Oper.wp
  go_simp
  refine ⟨But.refl _ _, ?_⟩
  refine anyT_one 7 rfl (by kernel_rfl) rfl ?_
  unfold Oper.wp
  go_simp
  generalize hV : World.setCell _ ⟨w.heap.size, 1, none⟩ _ = V8
  have hV9 : V8 = putRow W2 (w.heap.size) 0 [.int .u8 x, .slice a2 (zs.length - 2) c2] := hV.symm
  have hb8 : But (fun b => b = w.heap.size) W2 V8 := by rw [hV9]; exact putRow_but (E := fun b => b = w.heap.size) (n := w.heap.size) rfl _ _ _ _ (But.refl _ _)
  have p8 := putRow_all [.int .u8 x, .slice a2 (zs.length - 2) c2] r2 rfl
  rw [← hV9] at p8
  clear hV hV9 R2 F2
  refine ⟨hb8, ?_⟩
  refine anyT_done (by kernel_rfl) ?_
  have P8 := block_cell p8
  have hw8 : Below w.heap.size w V8 := hw2.trans (hb8.below hw2.size (fun k h e => by omega))
  go_wp2_with fail
  exact bodyPost_ret (v := .agg #[.int .u8 x, .slice a2 (zs.length - 2) c2]) (by simp [results, Tryz.results254, go_sem, P8]) rfl ⟨hw8, .slice a2 (zs.length - 2) c2, rfl, (hO2.but hb8 (fun b h e => by omega)).mono (by omega)⟩
attribute [local go_sem] Oper.semAt_some
abbrev It := Value × Option Opt
def encI (x : It) : Array Value := #[x.1, .bool x.2.isSome]
def XI (n₁ N : Nat) (pre : List It) (x : It) (V : World) : Prop := pre.length ≤ N ∧
 match x.2 with
 | some o => ∃ s, x.1 = .agg #[.int .u8 o.1, s] ∧ Ow n₁ V s o.2
 | none => x.1 = .agg #[.int .u8 0, .slice none 0 0]
def SI (zs : List Int) (xs : List It) : Prop := (∃ os, opts zs = some os ∧ xs.map (·.2) = os.map some) ∨ (opts zs = none ∧ ∃ l v, xs = l ++ [(v, none)])
def SpI (zs : List Int) (xs : List It) : Prop := (∃ l v, xs = l ++ [(v, none)]) → opts zs = none
def InvI (zs : List Int) (p : Nat) (pre : List It) : Prop := pre.length ≤ p ∧ ∃ os, pre.map (·.2) = os.map some ∧ opts zs = (opts (zs.drop p)).map (os ++ ·)
theorem InvI.zero (zs : List Int) : InvI zs 0 [] := ⟨Nat.le_refl _, [], rfl, by rw [List.drop_zero]; cases opts zs <;> rfl⟩
theorem InvI.bad {zs : List Int} {p : Nat} {pre : List It} (h : InvI zs p pre) (hn : opts (zs.drop p) = none) : opts zs = none := by
 obtain ⟨_, os, _, h2⟩ := h
 rw [h2, hn]
 rfl
theorem InvI.done {zs : List Int} {p : Nat} {pre : List It} (h : InvI zs p pre) (hn : opts (zs.drop p) = some []) : SI zs pre := by
 obtain ⟨_, os, h1, h2⟩ := h
 exact .inl ⟨os, by rw [h2, hn]; simp, h1⟩
theorem InvI.next {zs : List Int} {p q : Nat} {pre : List It} {o : Opt} {v : Value} (h : InvI zs p pre) (hq : p + 1 ≤ q) (hn : opts (zs.drop p) = (opts (zs.drop q)).map (o :: ·)) : InvI zs q (pre ++ [(v, some o)]) := by
 obtain ⟨hl, os, h1, h2⟩ := h
 refine ⟨by simp; omega, os ++ [o], by simp [h1], ?_⟩
 rw [h2, hn]
 cases opts (zs.drop q) <;> simp
theorem jump_ret (l : Nat) (J : Act → World → Prop) (Q : Exit → Act → World → Prop) (a : Act) (w : World) : Exit.jump l J Q .ret a w = Q .ret a w := rfl
theorem jump_normal (l : Nat) (J : Act → World → Prop) (Q : Exit → Act → World → Prop) (a : Act) (w : World) : Exit.jump l J Q .normal a w = Q .normal a w := rfl
theorem KB.later {n₀ Bs : Nat} {A B : World} (h1 : n₀ ≤ A.heap.size) (h2 : Bs < A.heap.size) (h : Later A B) : KB n₀ Bs A B := ⟨h.mono h1, h.block Bs h2⟩
theorem notLast {pre : List It} {v : Value} {o : Opt} (h : ∃ l v', pre ++ [(v, some o)] = l ++ [((v' : Value), (none : Option Opt))]) : False := by
 obtain ⟨l, v', h⟩ := h
 have h3 := congrArg List.getLast? h
 simp at h3
theorem drop_eq (zs : List Int) (p : Nat) (h : p < zs.length) : zs.drop p = zs[p]?.getD 0 :: zs.drop (p + 1) := by
 rw [List.drop_eq_getElem_cons h]
 simp [h]
theorem walk1_in (n : Nat) (hn : 1 ≤ n) (l Bs n₀ n₁ b off cap : Nat) (zs : List Int) (hB : Mt.By zs) (hreach : zs.length ≤ cap) (hcap : cap ≤ 9223372036854775807) (hlen : zs.length ≤ 140737488355328) (hb : b < n₀) (J Jx : List It → World → Prop)
  (hJ : ∀ s A B, J s A → Later A B → J s B)
  (hY : ∀ pre x V, J pre V → XI n₁ zs.length pre x V → YieldAt Fence.wide (n - 1) Tryz.prog l (encI x) V fun e V' => (e = .returned (.bool true) ∧ J (pre ++ [x]) V' ∧ KB n₀ Bs V V') ∨ (e = .returned (.bool false) ∧ Jx (pre ++ [x]) V'))
  (W : World) (hn1 : n₁ ≤ W.heap.size) (hBs : W.cell? ⟨Bs, 0, none⟩ = some (.slice (some ⟨b, off, none⟩) zs.length cap)) (hBl : Bs < W.heap.size) (hn0 : n₀ ≤ W.heap.size) (hc : ∀ j, j < zs.length → W.cell? ⟨b, off + j, none⟩ = some (.int .u8 (zs[j]?.getD 0))) (h0 : J [] W) :
  CallsIn Fence.wide n Tryz.prog 252 #[.func (.yield l) #[] #[], .pointer (some ⟨Bs, 0, none⟩)] W fun e W' => (∃ v, e = .returned v) ∧ ((∃ xs, SI zs xs ∧ J xs W') ∨ (∃ pre, SpI zs pre ∧ Jx pre W')) := by
 refine callsIn_of_wp Tryz.func252 rfl trivial ?_ rfl
 simp only [Tryz.ntmps252, List.size_toArray, List.length_cons, List.length_nil, Nat.reduceAdd, Nat.reduceSub, Array.replicate_succ, Array.replicate_zero, List.push_toArray, List.append_toArray, List.nil_append, List.cons_append]
 refine wpIn_wide.2 (wp_scope_jumps 0 (fun a w => ∃ (tl : List Value) (pre : List It), tl.length = 49 ∧ a = { tmps := (Value.func (.yield l) #[] #[] :: .pointer (some ⟨Bs, 0, none⟩) :: tl).toArray, defers := [] } ∧ J pre w ∧ opts zs = none ∧ pre.length ≤ zs.length) (fun _ _ => 0) rfl ((wpIn_wide (n := n)).1 ?_) (fun a w hJ1 => (wpIn_wide (n := n)).1 ?_))
 ·have HC := hide hc
  clear hc
  gi_wp2
  gi_loopw [3] (fun i wr => ∃ (p : Nat) (pre : List It), p ≤ zs.length ∧ i = .int .i64 (p : Int) ∧ InvI zs p pre ∧ J pre wr ∧ KB n₀ Bs W wr) (fun i _ => zs.length - (intOf i).toNat)
  case atStart => exact ⟨0, [], by omega, rfl, InvI.zero zs, h0, KB.refl _ _ _⟩
  case round =>
   obtain ⟨p, pre, hp, rfl, hinv, hJs, hnx⟩ := hrel
   have hbx : wr.cell? ⟨Bs, 0, none⟩ = some (.slice (some ⟨b, off, none⟩) zs.length cap) := hnx.box.trans hBs
   have hcx : ∀ j, j < zs.length → wr.cell? ⟨b, off + j, none⟩ = some (.int .u8 (zs[j]?.getD 0)) := fun j h => (hnx.1.cell (p := ⟨b, off + j, none⟩) hb).trans (HC.out j h)
   by_cases hlt : p < zs.length
   ·have c0 := hcx p hlt
    have b0 := hB.at p
    have HD := hide (drop_eq zs p hlt)
    have hlt' : (p : Int) < zs.length := by omega
    have hRr : Rd n₀ wr (.slice (some ⟨b, off + p, none⟩) (zs.length - p) (cap - p)) (zs.drop p) := .inr ⟨b, off + p, cap - p, by simp, by intro e; have := congrArg List.length e; simp at this; omega, by simp; omega, by omega, hb, fun j hj => by
     have h9 := hcx (p + j) (by simp at hj; omega)
     rw [show off + p + j = off + (p + j) from by omega, h9]
     simp [List.getElem?_drop]⟩
    have HRR := hide hRr
    have c1 : p + 1 < zs.length → wr.cell? ⟨b, off + p + 1, none⟩ = some (.int .u8 (zs[p + 1]?.getD 0)) := fun h => by have := hcx (p + 1) h; rw [← Nat.add_assoc] at this; exact this
    have HC1 := hide c1
    clear hcx c1
    have hn0' : n₀ ≤ wr.heap.size := Nat.le_trans hn0 hnx.1.size
    have hBl' : Bs < wr.heap.size := Nat.lt_of_lt_of_le hBl hnx.1.size
    generalize hx : zs[p]?.getD 0 = x at c0 b0 HD
    have HX := hide hx
    have hcp : (zs.length - p : Nat) ≤ cap - p := by omega
    clear hx hRr
    by_cases x0 : x = 0
    ·have t0 : (x == 0) = true := by simp [x0]
     have X0 := hide x0
     clear x0
     gi_wp2
     refine ⟨trivial, ?_⟩
     refine (callsIn_wide.2 (blank_any n₀ (.slice (some ⟨b, off + p, none⟩) (zs.length - p) (cap - p)) (zs.drop p) _ HRR.out (by simp; omega))).mono ?_
     rintro e w' ⟨rfl, rfl⟩
     cases hz : azb (zs.drop p) with
     | true =>
      gi_wp2
      rw [jump_ret]
      refine bodyPost_ret (results_none rfl _ _ _) rfl ?_
      refine ⟨⟨_, rfl⟩, .inl ⟨pre, hinv.done ?_, hJs⟩⟩
      have h1 := of_decide_eq_true hz
      rw [HD.out] at h1 ⊢
      rw [X0.out, opts_zero, if_pos (fun y hy => h1 y (by simp [hy]))]
     | false =>
      have hno : opts (zs.drop p) = none := by
       have h1 := of_decide_eq_false hz
       rw [HD.out] at h1 ⊢
       rw [X0.out] at h1 ⊢
       rw [opts_zero, if_neg (fun h => h1 (fun y hy => by rcases List.mem_cons.1 hy with h' | h'; exact h'; exact h y h'))]
      gi_wp2
      refine wpIn_goto ⟨rfl, _, pre, ?_, rfl, hJs, hinv.bad hno, Nat.le_trans hinv.1 hp⟩
      rfl
    ·have t0 : (x == 0) = false := by simp [x0]
     have X0 := hide x0
     clear x0
     by_cases x1 : x = 1
     ·have t1 : (x == 1) = true := by simp [x1]
      subst x1
      have hT0 : ((zs.drop p).take 1)[0]?.getD 0 = 1 := by rw [HD.out]; rfl
      have hBt : Mt.By ((zs.drop p).take 1) := (hB.drop p).take 1
      have hTw : ((zs.drop p).take 1)[0]?.getD 0 ≠ 1 → 2 ≤ ((zs.drop p).take 1).length := fun h => (h hT0).elim
      have hRt' : ∀ v, Rd n₀ wr v ((zs.drop p).take 1) → Rd wr.heap.size wr v ((zs.drop p).take 1) := fun _ h => h.mono hn0'
      have hn1' : n₁ ≤ wr.heap.size := Nat.le_trans hn1 hnx.1.size
      gi_wp2
      refine ⟨trivial, ?_⟩
      have hRt := HRR.out.take 1 (by omega)
      refine (callsIn_wide.2 (optionOf_any _ ((zs.drop p).take 1) wr (hRt' _ hRt) hBt (by simp; omega) (by simp; omega) hTw)).mono ?_
      rw [hT0]
      rintro e V ⟨hbV, s, rfl, hOs⟩
      rw [if_pos rfl] at hOs
      obtain ⟨fn, tmps, assign, body, hy, hR⟩ := hY pre (.agg #[.int .u8 1, s], some (1, [])) V (hJ _ _ _ hJs hbV) ⟨Nat.le_trans hinv.1 hp, s, rfl, hOs.mono hn1'⟩
      dsimp only [encI, Option.isSome] at hy
      have hbx2 : V.cell? ⟨Bs, 0, none⟩ = some (.slice (some ⟨b, off, none⟩) zs.length cap) := (hbV.cell (p := ⟨Bs, 0, none⟩) hBl').trans hbx
      gi_wp2
      refine hR.mono ?_
      rintro e W3 (⟨rfl, hJ3, hk3⟩ | ⟨rfl, hJx3⟩)
      ·gi_wp2
       go_roundw
       case rel => exact ⟨p + 1, _, by omega, by go_num, hinv.next (by omega) (by rw [HD.out, opts_one]), hJ3, hnx.trans ((KB.later hn0' hBl' hbV).trans hk3)⟩
       case measure => simp [intOf]; omega
      ·gi_wp2
       rw [jump_ret]
       refine bodyPost_ret (results_none rfl _ _ _) rfl ?_
       exact ⟨⟨_, rfl⟩, .inr ⟨_, fun hl => (notLast hl).elim, hJx3⟩⟩
     ·have t1 : (x == 1) = false := by simp [x1]
      have X1 := hide x1
      clear x1
      by_cases hs2 : zs.length - p < 2
      ·have hno : opts (zs.drop p) = none := by
        rw [HD.out, List.drop_of_length_le (by omega)]
        exact opts_bare x X0.out X1.out
       have t2 : ((zs.length - p : Nat) : Int) < 2 := by omega
       gi_wp2
       refine wpIn_goto ⟨rfl, _, pre, ?_, rfl, hJs, hinv.bad hno, Nat.le_trans hinv.1 hp⟩
       rfl
      ·have hp1 : p + 1 < zs.length := by omega
       have t2 : ¬ ((zs.length - p : Nat) : Int) < 2 := by omega
       have c1 := HC1.out hp1
       have b1 := hB.at (p + 1)
       have HD2 := hide (drop_eq zs (p + 1) hp1)
       have i1 : (1 : Int) < ((zs.length - p : Nat) : Int) := by omega
       clear HC1
       generalize hz : zs[p + 1]?.getD 0 = z at c1 b1 HD2
       have HZ := hide hz
       clear hz
       by_cases hz2 : z < 2
       ·have hno : opts (zs.drop p) = none := by rw [HD.out, HD2.out]; exact opts_wrong x z _ X0.out X1.out (.inl hz2)
        gi_wp2
        refine wpIn_goto ⟨rfl, _, pre, ?_, rfl, hJs, hinv.bad hno, Nat.le_trans hinv.1 hp⟩
        rfl
       ·by_cases hzl : ((zs.length - p : Nat) : Int) < z
        ·have hno : opts (zs.drop p) = none := by rw [HD.out, HD2.out]; exact opts_wrong x z _ X0.out X1.out (.inr (by simp; omega))
         gi_wp2
         refine wpIn_goto ⟨rfl, _, pre, ?_, rfl, hJs, hinv.bad hno, Nat.le_trans hinv.1 hp⟩
         rfl
        ·obtain ⟨m, rfl⟩ := Int.eq_ofNat_of_zero_le b1.1
         have hm2 : 2 ≤ m := by omega
         have hml : p + m ≤ zs.length := by omega
         have hT0 : ((zs.drop p).take m)[0]?.getD 0 = x := by rw [HD.out]; cases m with | zero => omega | succ k => rfl
         have hBt : Mt.By ((zs.drop p).take m) := (hB.drop p).take m
         have hTw : ((zs.drop p).take m)[0]?.getD 0 ≠ 1 → 2 ≤ ((zs.drop p).take m).length := fun _ => by simp; omega
         have hRt' : ∀ v, Rd n₀ wr v ((zs.drop p).take m) → Rd wr.heap.size wr v ((zs.drop p).take m) := fun _ h => h.mono hn0'
         have hn1' : n₁ ≤ wr.heap.size := Nat.le_trans hn1 hnx.1.size
         have hni : opts (zs.drop p) = (opts (zs.drop (p + m))).map ((x, ((zs.drop p).take m).drop 2) :: ·) := by
          have e1 : zs.drop p = x :: (m : Int) :: zs.drop (p + 2) := by rw [HD.out, HD2.out]
          have h9 := opts_more x (m : Int) (zs.drop (p + 2)) X0.out X1.out (by omega) (by simp; omega)
          rw [← e1] at h9
          rw [h9, List.drop_drop]
          have e2 : ((zs.drop p).take m).drop 2 = (zs.drop (p + 2)).take ((m : Int).toNat - 2) := by
           rw [List.drop_take, List.drop_drop]
           simp
          rw [e2, show p + 2 + ((m : Int).toNat - 2) = p + m from by omega]
         gi_wp2
         refine ⟨trivial, ?_⟩
         have hRt := HRR.out.take m (by omega)
         refine (callsIn_wide.2 (optionOf_any _ ((zs.drop p).take m) wr (hRt' _ hRt) hBt (by simp; omega) (by simp; omega) hTw)).mono ?_
         rw [hT0]
         rintro e V ⟨hbV, s, rfl, hOs⟩
         rw [if_neg X1.out] at hOs
         obtain ⟨fn, tmps, assign, body, hy, hR⟩ := hY pre (.agg #[.int .u8 x, s], some (x, ((zs.drop p).take m).drop 2)) V (hJ _ _ _ hJs hbV) ⟨Nat.le_trans hinv.1 hp, s, rfl, hOs.mono hn1'⟩
         dsimp only [encI, Option.isSome] at hy
         have hbx2 : V.cell? ⟨Bs, 0, none⟩ = some (.slice (some ⟨b, off, none⟩) zs.length cap) := (hbV.cell (p := ⟨Bs, 0, none⟩) hBl').trans hbx
         gi_wp2
         refine hR.mono ?_
         rintro e W3 (⟨rfl, hJ3, hk3⟩ | ⟨rfl, hJx3⟩)
         ·gi_wp2
          go_roundw
          case rel => exact ⟨p + m, _, by omega, by go_num, hinv.next (by omega) hni, hJ3, hnx.trans ((KB.later hn0' hBl' hbV).trans hk3)⟩
          case measure => simp [intOf]; omega
         ·gi_wp2
          rw [jump_ret]
          refine bodyPost_ret (results_none rfl _ _ _) rfl ?_
          exact ⟨⟨_, rfl⟩, .inr ⟨_, fun hl => (notLast hl).elim, hJx3⟩⟩
   ·obtain rfl : p = zs.length := by omega
    clear hcx
    gi_wp2
    rw [jump_ret]
    refine bodyPost_ret (results_none rfl _ _ _) rfl ?_
    exact ⟨⟨_, rfl⟩, .inl ⟨pre, hinv.done (by rw [List.drop_of_length_le (Nat.le_refl _)]; rfl), hJs⟩⟩
 ·obtain ⟨tl, pre, htl, rfl, hJs, hno, hpl⟩ := hJ1
  obtain ⟨v0, v1, v2, v3, v4, v5, v6, v7, v8, v9, v10, v11, v12, v13, v14, v15, v16, v17, v18, v19, v20, v21, v22, v23, v24, v25, v26, v27, v28, v29, v30, v31, v32, v33, v34, v35, v36, v37, v38, v39, v40, v41, v42, v43, v44, v45, v46, v47, v48, rfl⟩ := list49 htl
  have HNO := hide hno
  clear hno htl
  obtain ⟨fn, tmps, assign, body, hy, hR⟩ := hY pre (.agg #[.int .u8 0, .slice none 0 0], none) w hJs ⟨hpl, rfl⟩
  dsimp only [encI, Option.isSome] at hy
  gi_wp2
  refine hR.mono ?_
  rintro e W3 (⟨rfl, hJ3, hk3⟩ | ⟨rfl, hJx3⟩)
  ·gi_wp2
   rw [jump_normal]
   go_end0
   exact ⟨⟨_, rfl⟩, .inl ⟨_, .inr ⟨HNO.out, _, _, rfl⟩, hJ3⟩⟩
  ·gi_wp2
   rw [jump_normal]
   go_end0
   exact ⟨⟨_, rfl⟩, .inr ⟨_, fun _ => HNO.out, hJx3⟩⟩
def rowO (os : List Opt) (ss : List Value) : List Value := (os.zip ss).flatMap fun p => [.int .u8 p.1.1, p.2]
theorem rowO_at : ∀ (os : List Opt) (ss : List Value), ss.length = os.length → ∀ j, j < os.length → (rowO os ss)[j * 2]? = some (.int .u8 (os[j]?.getD (0, [])).1) ∧ (rowO os ss)[j * 2 + 1]? = some (ss[j]?.getD undef)
 | o :: os, s :: ss, _, 0, _ => by simp [rowO]
 | o :: os, s :: ss, h, j + 1, hj => by
  have ih := rowO_at os ss (by simpa using h) j (by simpa using hj)
  unfold rowO at ih ⊢
  simp only [List.zip_cons_cons, List.flatMap_cons, List.cons_append, List.nil_append]
  rw [show (j + 1) * 2 = j * 2 + 1 + 1 from by omega]
  simpa using ih
theorem rowO_snoc (os : List Opt) (ss : List Value) (h : ss.length = os.length) (o : Opt) (s : Value) : rowO (os ++ [o]) (ss ++ [s]) = rowO os ss ++ [.int .u8 o.1, s] := by
 unfold rowO
 rw [List.zip_append h.symm]
 simp
def OwO (base : Nat) (W : World) (v : Value) (os : List Opt) : Prop :=
 ∃ ss, ss.length = os.length ∧ W.ownsRow base 268 2 v os.length (rowO os ss) ∧ ∀ j, j < os.length → Ow base W (ss[j]?.getD undef) (os[j]?.getD (0, [])).2
def CK (A B : World) : Prop := A.heap.size ≤ B.heap.size ∧ ∀ (k : Nat) (o : Obj), A.heap[k]? = some o → o.isCells = true → B.heap[k]? = some o
theorem CK.of {A B : World} (h : Later A B) : CK A B := ⟨h.size, fun k o ho _ => later_keep h ho⟩
theorem CK.trans {A B C : World} (h : CK A B) (k : CK B C) : CK A C := ⟨Nat.le_trans h.1 k.1, fun i o ho hc => k.2 i o (h.2 i o ho hc) hc⟩
theorem CK.row {A B : World} {row : Option Nat} (hg : A.grownBy B row) (hr : ∀ r, row = some r → ∃ o : Obj, A.heap[r]? = some o ∧ o.isCells = false) : CK A B :=
 ⟨hg.size, fun k o ho hc => (hg.block k (bl9 ho) (fun e => by obtain ⟨o', h1, h2⟩ := hr k e.symm; rw [ho] at h1; cases h1; rw [hc] at h2; cases h2)).trans ho⟩
theorem CK.put {A : World} {l : Nat} {o o' : Obj} (h : A.heap[l]? = some o) (hc : o.isCells = false) : CK A (A.putObj l o') :=
 CK.row (grownBy_putObj' A l o') (fun r e => by cases e; exact ⟨o, h, hc⟩)
theorem Ow.ck {base : Nat} {A B : World} {v : Value} {zs : List Int} (h : Ow base A v zs) (c : CK A B) : Ow base B v zs := by
 rcases h with h | ⟨g, cap, cur, h1, h2, h3, h4, h5, h6, h7⟩
 ·exact .inl h
 ·exact .inr ⟨g, cap, cur, h1, h2, h3, h4, h5, c.2 g _ h6 rfl, h7⟩
theorem ownsRow_ck {base : Nat} {e : TypeId} {size : Nat} {A B : World} {v : Value} {n : Nat} {xs : List Value} (h : A.ownsRow base e size v n xs) (c : CK A B) : B.ownsRow base e size v n xs := by
 refine ⟨h.1, h.2.imp id ?_⟩
 rintro ⟨g, cap, cur, h1, h2, h3, r⟩
 exact ⟨g, cap, cur, h1, h2, c.2 g _ h3 rfl, r⟩
theorem OwO.ck {base : Nat} {A B : World} {v : Value} {os : List Opt} (h : OwO base A v os) (c : CK A B) : OwO base B v os := by
 obtain ⟨ss, h1, h2, h3⟩ := h
 exact ⟨ss, h1, ownsRow_ck h2 c, fun j hj => (h3 j hj).ck c⟩
theorem OwO.nil (base : Nat) (W : World) : OwO base W (.slice none 0 0) [] := ⟨[], rfl, World.ownsRow_nil _ _ _ _, fun j h => by simp at h⟩
theorem OwO.mono {base base' : Nat} {W : World} {v : Value} {os : List Opt} (h : OwO base W v os) (hb : base' ≤ base) : OwO base' W v os := by
 obtain ⟨ss, h1, h2, h3⟩ := h
 refine ⟨ss, h1, ⟨h2.1, h2.2.imp id ?_⟩, fun j hj => (h3 j hj).mono hb⟩
 rintro ⟨g, cap, cur, h1, h2, r⟩
 exact ⟨g, cap, cur, h1, by omega, r⟩
theorem OwO.but {base : Nat} {E : Nat → Prop} {A B : World} {v : Value} {os : List Opt} (h : OwO base A v os) (hb : But E A B) (hE : ∀ b, base ≤ b → ¬ E b) : OwO base B v os := by
 obtain ⟨ss, h1, h2, h3⟩ := h
 refine ⟨ss, h1, ⟨h2.1, h2.2.imp id ?_⟩, fun j hj => (h3 j hj).but hb hE⟩
 rintro ⟨g, cap, cur, h1, h2, h3, r⟩
 exact ⟨g, cap, cur, h1, h2, (hb.block g (bl9 h3) (hE g h2)).trans h3, r⟩
theorem OwO.rd {base : Nat} {W : World} {v : Value} {os : List Opt} (h : OwO base W v os) : RdO W.heap.size W v os := by
 obtain ⟨ss, h1, h2, h3⟩ := h
 rcases h2.2 with ⟨rfl, hn⟩ | ⟨g, cap, cur, rfl, hg, hh, hl, hm, hs, hc⟩
 ·exact .inl ⟨none, 0, rfl, List.eq_nil_of_length_eq_zero hn, by omega, fun _ => rfl⟩
 ·by_cases h0 : os = []
  ·subst h0
   exact .inl ⟨_, cap, rfl, rfl, by simpa [maxLen] using hm, fun h => by cases h⟩
  ·refine .inr ⟨g, 0, cap, rfl, h0, hl, by simpa [maxLen] using hm, (bl9 hh), fun j hj => ?_⟩
   have hat := rowO_at os ss h1 j hj
   have hk : ∀ i, i < os.length * 2 → W.cell? ⟨g, 0 + i, none⟩ = (rowO os ss)[i]? := fun i hi => by
    rw [Nat.zero_add, block_cell hh i, ← hc, List.getElem?_take_of_lt hi]
    simp
   refine ⟨ss[j]?.getD undef, by rw [hk _ (by omega)]; exact hat.1, by rw [Nat.add_assoc, hk _ (by omega)]; exact hat.2, (h3 j hj).rd⟩
theorem OwO.slice {base : Nat} {W : World} {v : Value} {os : List Opt} (h : OwO base W v os) : ∃ a cap, v = .slice a os.length cap ∧ os.length ≤ cap ∧ cap ≤ 9223372036854775807 := h.rd.slice
attribute [local go_sem] Oper.semAt_some
theorem walk1_nil (n : Nat) (l Bs : Nat) (a : Option Addr) (cap : Nat) (J : List It → World → Prop) (W : World) (hBs : W.cell? ⟨Bs, 0, none⟩ = some (.slice a 0 cap)) (h0 : J [] W) :
  CallsIn Fence.wide n Tryz.prog 252 #[.func (.yield l) #[] #[], .pointer (some ⟨Bs, 0, none⟩)] W fun e W' => (∃ v, e = .returned v) ∧ J [] W' := by
 refine callsIn_of_wp Tryz.func252 rfl trivial ?_ rfl
 simp only [Tryz.ntmps252, List.size_toArray, List.length_cons, List.length_nil, Nat.reduceAdd, Nat.reduceSub, Array.replicate_succ, Array.replicate_zero, List.push_toArray, List.append_toArray, List.nil_append, List.cons_append]
 refine wpIn_wide.2 (wp_scope_jumps 0 (fun a w => False) (fun _ _ => 0) rfl ((wpIn_wide (n := n)).1 ?_) (fun a w hJ1 => hJ1.elim))
 gi_wp2
 gi_loopw [3] (fun i wr => i = .int .i64 0 ∧ J [] wr ∧ wr.cell? ⟨Bs, 0, none⟩ = some (.slice a 0 cap)) (fun _ _ => 0)
 case atStart => exact ⟨rfl, h0, hBs⟩
 case round =>
  obtain ⟨rfl, hJs, hbx⟩ := hrel
  gi_wp2
  rw [jump_ret]
  refine bodyPost_ret (results_none rfl _ _ _) rfl ?_
  exact ⟨⟨_, rfl⟩, hJs⟩
theorem walk_in (n : Nat) (a : Option Addr) (len cap : Nat) (w : World) :
  CallsIn Fence.wide n Tryz.prog 223 #[.slice a len cap] w fun e w' => e = .returned (.func (.func 252) #[] #[.pointer (some ⟨w.heap.size, 0, none⟩)]) ∧ w' = w.alloc (.cells #[.slice a len cap] 31) := by
 refine callsIn_of_wp Tryz.func223 rfl trivial ?_ rfl
 simp only [Tryz.ntmps223, List.size_toArray, List.length_cons, List.length_nil, Nat.reduceAdd, Nat.reduceSub, Array.replicate_succ, Array.replicate_zero, List.push_toArray, List.append_toArray, List.nil_append, List.cons_append]
 gi_wp2
 go_ret
 exact ⟨rfl, rfl⟩
theorem walk_gen (n : Nat) (hn : 1 ≤ n) (Bs n₀ n₁ : Nat) (sv : Value) (zs : List Int) (hB : Mt.By zs) (hl : zs.length ≤ 40) (w : World) (hBl : Bs < w.heap.size) (hn₀ : n₀ ≤ w.heap.size) (hn₁ : n₁ ≤ w.heap.size)
  (hc : w.cell? ⟨Bs, 0, none⟩ = some sv) (hI : Rd n₀ w sv zs) :
  GenX Fence.wide n Tryz.prog 252 #[.pointer (some ⟨Bs, 0, none⟩)] encI (KB n₀ Bs) (XI n₁ zs.length) (SI zs) (SpI zs) w := fun l J Jx W hW hJ hY h0 => by
 have hc' := (hW.cell (p := ⟨Bs, 0, none⟩) hBl).trans hc
 rcases hI.below (hW.mono hn₀) with ⟨a, cap, rfl, rfl, _, _⟩ | ⟨b, off, cap, rfl, _, hl', hm, hb, hcs⟩
 ·exact (walk1_nil n l Bs a cap J W hc' h0).mono fun e W' ⟨he, hj⟩ => ⟨he, .inl ⟨[], .inl ⟨[], rfl, rfl⟩, hj⟩⟩
 ·exact walk1_in n hn l Bs n₀ n₁ b off cap zs hB hl' hm (by omega) hb J Jx hJ hY W (Nat.le_trans hn₁ hW.size) hc' (Nat.lt_of_lt_of_le hBl hW.size) (Nat.le_trans hn₀ hW.size) hcs h0
theorem info_opt : (Tryz.prog.info? 268).map (fun i => (i.zero, i.size, i.bytes)) = some (some (.agg #[.int .u8 0, .slice none 0 0]), 2, 32) := by kernel_rfl
theorem heap_set_ne {W : World} {n m j : Nat} {v : Value} {o : Obj} (h : W.heap[n]? = some o) (hne : n ≠ m) : (W.setCell ⟨m, j, none⟩ v).heap[n]? = some o := (Below.heap_setCell W ⟨m, j, none⟩ v n hne).trans h
theorem KeepsFrom.set2 (B : Nat) (W : World) (p q : Addr) (u v : Value) : KeepsFrom B W ((W.setCell p u).setCell q v) := ((KeepsOthers.setCell W p u).from B).trans ((KeepsOthers.setCell _ q v).from B)
def PI (rb base : Nat) (pre : List It) (W : World) : Prop :=
 (∃ os v, pre.map (·.2) = os.map some ∧ W.heap[rb + 1 + 1]? = some (.cells #[v] 160 (0, 0)) ∧ OwO base W v os) ∧ W.heap[rb]? = some (.cells #[.slice none 0 0] 160 (0, 0)) ∧ W.heap[rb + 1]? = some (.cells #[.bool false] 4 (0, 0))
theorem PI.ck {rb base : Nat} {pre : List It} {A B : World} (h : PI rb base pre A) (c : CK A B) : PI rb base pre B := by
 obtain ⟨⟨os, v, h1, h2, h3⟩, h4, h5⟩ := h
 exact ⟨⟨os, v, h1, c.2 _ _ h2 rfl, h3.ck c⟩, c.2 _ _ h4 rfl, c.2 _ _ h5 rfl⟩
def PX (rb : Nat) (pre : List It) (W : World) : Prop := (∃ l v, pre = l ++ [(v, none)]) ∧ W.heap[rb]? = some (.cells #[.slice none 0 0] 160 (0, 0)) ∧ W.heap[rb + 1]? = some (.cells #[.bool false] 4 (0, 0))
theorem PX.ck {rb : Nat} {pre : List It} {A B : World} (h : PX rb pre A) (c : CK A B) : PX rb pre B := ⟨h.1, c.2 _ _ h.2.1 rfl, c.2 _ _ h.2.2 rfl⟩
theorem XI.ck {n₁ N : Nat} {pre : List It} {x : It} {A B : World} (h : XI n₁ N pre x A) (c : CK A B) : XI n₁ N pre x B := by
 obtain ⟨v, o⟩ := x
 cases o with
 | none => exact h
 | some o =>
  obtain ⟨h0, s, h1, h2⟩ := h
  exact ⟨h0, s, h1, h2.ck c⟩
theorem readOptions_any (sv : Value) (zs : List Int) (hB : Mt.By zs) (hl : zs.length ≤ 40) (w : World) (hI : Rd w.heap.size w sv zs) :
  Calls Tryz.prog 185 #[sv] w fun e w' => Below w.heap.size w w' ∧ ((opts zs = none ∧ e = .returned (.tuple #[.slice none 0 0, .bool false])) ∨ ∃ os v, opts zs = some os ∧ e = .returned (.tuple #[v, .bool true]) ∧ OwO w.heap.size w' v os) := by
 obtain ⟨a, cap, rfl, _⟩ := hI.slice
 refine (callsIn_wide (n := 5)).1 ?_
 refine callsIn_of_wp_marks Tryz.func185 rfl trivial ?_ rfl
 simp only [Tryz.ntmps185, List.size_toArray, List.length_cons, List.length_nil, Nat.reduceAdd, Nat.reduceSub, Array.replicate_succ, Array.replicate_zero, List.push_toArray, List.append_toArray, List.nil_append, List.cons_append]
 have hb4 : Below w.heap.size w ((((w.alloc (.cells #[.slice none 0 0] 160)).alloc (.cells #[.bool false] 4)).alloc (.cells #[.slice none 0 0] 160)).alloc (.cells #[.slice a zs.length cap] 31)) := ((((Below.refl _ _).alloc (Nat.le_refl _) _).alloc (by simp) _).alloc (by simp <;> omega) _).alloc (by simp <;> omega) _
 have c0 : ((((w.alloc (.cells #[.slice none 0 0] 160)).alloc (.cells #[.bool false] 4)).alloc (.cells #[.slice none 0 0] 160)).alloc (.cells #[.slice a zs.length cap] 31)).heap[w.heap.size]? = some (.cells #[.slice none 0 0] 160) := (Below.heap_alloc _ _ _ (by simp <;> omega)).trans ((Below.heap_alloc _ _ _ (by simp <;> omega)).trans ((Below.heap_alloc _ _ _ (by simp)).trans (heap_alloc_new w _)))
 have c1 : ((((w.alloc (.cells #[.slice none 0 0] 160)).alloc (.cells #[.bool false] 4)).alloc (.cells #[.slice none 0 0] 160)).alloc (.cells #[.slice a zs.length cap] 31)).heap[w.heap.size + 1]? = some (.cells #[.bool false] 4) := by
  have := heap_alloc_new (w.alloc (.cells #[.slice none 0 0] 160)) (.cells #[.bool false] 4)
  rw [World.size_alloc] at this
  exact (Below.heap_alloc _ _ _ (by simp <;> omega)).trans ((Below.heap_alloc _ _ _ (by simp)).trans this)
 have c2 : ((((w.alloc (.cells #[.slice none 0 0] 160)).alloc (.cells #[.bool false] 4)).alloc (.cells #[.slice none 0 0] 160)).alloc (.cells #[.slice a zs.length cap] 31)).heap[w.heap.size + 1 + 1]? = some (.cells #[.slice none 0 0] 160) := by
  have := heap_alloc_new ((w.alloc (.cells #[.slice none 0 0] 160)).alloc (.cells #[.bool false] 4)) (.cells #[.slice none 0 0] 160)
  simp only [World.size_alloc] at this
  exact (Below.heap_alloc _ _ _ (by simp)).trans this
 have c3 : ((((w.alloc (.cells #[.slice none 0 0] 160)).alloc (.cells #[.bool false] 4)).alloc (.cells #[.slice none 0 0] 160)).alloc (.cells #[.slice a zs.length cap] 31)).heap[w.heap.size + 1 + 1 + 1]? = some (.cells #[.slice a zs.length cap] 31) := by
  have := heap_alloc_new (((w.alloc (.cells #[.slice none 0 0] 160)).alloc (.cells #[.bool false] 4)).alloc (.cells #[.slice none 0 0] 160)) (.cells #[.slice a zs.length cap] 31)
  simpa only [World.size_alloc] using this
 have hs4 : ((((w.alloc (.cells #[.slice none 0 0] 160)).alloc (.cells #[.bool false] 4)).alloc (.cells #[.slice none 0 0] 160)).alloc (.cells #[.slice a zs.length cap] 31)).heap.size = w.heap.size + 1 + 1 + 1 + 1 := by simp
 have C0 := hide c0
 have C1 := hide c1
 have C2 := hide c2
 have C3 := hide c3
 have HS4 := hide hs4
 clear c0 c1 c2 c3 hs4
 gi_wp2_with (refine ⟨trivial, ?_⟩; gi_at_call 223; refine (walk_in _ _ _ _ _).mono ?_; rintro e w' ⟨rfl, rfl⟩)
 generalize (((w.alloc (.cells #[.slice none 0 0] 160)).alloc (.cells #[.bool false] 4)).alloc (.cells #[.slice none 0 0] 160)).alloc (.cells #[.slice a zs.length cap] 31) = w4 at *
 have hs4 : w4.heap.size = w.heap.size + 1 + 1 + 1 + 1 := HS4.out
 refine wpIn_rangeX (w := w4) rfl (by omega) (gf := 252) (lb := #[.pointer (some ⟨w.heap.size + 1 + 1 + 1, 0, none⟩)]) rfl trivial (enters_of Tryz.func252 (by kernel_rfl) rfl)
  (walk_gen 4 (by omega) (w.heap.size + 1 + 1 + 1) w.heap.size (w.heap.size + 1 + 1 + 1 + 1) _ zs hB hl w4 (by omega) (by omega) (by omega) (block_cell C3.out 0) (hI.below hb4))
  KB.trans (kb_b (by omega) (by omega)) (fun hA hL => KB.later (by omega) (by omega) hL) (fun _ _ _ _ h l => h.ck (CK.of l)) (fun _ _ _ _ _ _ _ ho hc h => h.ck (CK.put ho hc)) (fun _ => rfl)
  (fun pre W => PI w.heap.size (w.heap.size + 1 + 1 + 1 + 1) pre W ∧ Below w.heap.size w W) (fun pre W => PX w.heap.size pre W ∧ Below w.heap.size w W)
  (OwnFrom.and (fun s A B row hs hg hr => hs.ck (CK.row hg (fun r e => (hr r e).2))) (ownFrom_below (Nat.le_refl _) (by omega)))
  (fun s A B h l => ⟨h.1.ck (CK.of l), h.2.trans (l.mono h.2.size)⟩)
  (OwnFrom.and (fun s A B row hs hg hr => hs.ck (CK.row hg (fun r e => (hr r e).2))) (ownFrom_below (Nat.le_refl _) (by omega)))
  ⟨⟨⟨[], .slice none 0 0, rfl, C2.out, OwO.nil _ _⟩, C0.out, C1.out⟩, hb4⟩
  (fun x a' W => ∃ (bx : Nat) (k : Int) (sa : Option Addr) (sl sc : Nat), w.heap.size + 1 + 1 + 1 + 1 ≤ bx ∧ x.1 = .agg #[.int .u8 k, .slice sa sl sc] ∧ W.heap[bx]? = some (.cells #[.int .u8 k, .slice sa sl sc] 268 (0, 0)) ∧ a' = { tmps := #[.slice a zs.length cap, undef, .pointer (some ⟨w.heap.size, 0, none⟩), .pointer (some ⟨w.heap.size + 1, 0, none⟩), .pointer (some ⟨w.heap.size + 1 + 1, 0, none⟩), .pointer (some ⟨bx, 0, none⟩), .bool x.2.isSome, .slice a zs.length cap, .func (.func 252) #[] #[.pointer (some ⟨w.heap.size + 1 + 1 + 1, 0, none⟩)], x.1, .bool x.2.isSome, undef, undef, undef, undef, undef, undef, undef], defers := [] })
  (fun x a' W l o o' hl ho hc h => by obtain ⟨bx, k, sa, sl, sc, h1, h2, h3, h4⟩ := h; exact ⟨bx, k, sa, sl, sc, h1, h2, (CK.put ho hc).2 _ _ h3 rfl, h4⟩) ?assign ?body ?done ?stop
 case assign =>
  rintro l pre x W K hsz _ hX hK
  obtain ⟨k, sa, sl, sc, hxv⟩ : ∃ (k : Int) (sa : Option Addr) (sl sc : Nat), x.1 = .agg #[.int .u8 k, .slice sa sl sc] := by
   obtain ⟨v, o⟩ := x
   cases o with
   | none => exact ⟨_, _, _, _, hX.2⟩
   | some o =>
    obtain ⟨_, s, h1, h2⟩ := hX
    obtain ⟨sa, sc, rfl, _, _⟩ := h2.slice
    exact ⟨_, _, _, _, h1⟩
  obtain ⟨v, o⟩ := x
  dsimp only at hxv
  subst hxv
  dsimp only [encI]
  gi_wp2
  refine hK _ _ ?_ ⟨W.heap.size, k, sa, sl, sc, by omega, rfl, heap_alloc_new _ _, rfl⟩
  exact (Below.refl _ W).alloc (Nat.le_refl _) _
 case body =>
  rintro l pre ⟨v, o⟩ a' W ⟨⟨⟨os, vr, hos, hob, hOw⟩, hr0, hr1⟩, hbW⟩ hX ⟨bx, k, sa, sl, sc, hbx, hxv, hbo, rfl⟩
  dsimp only at hxv
  subst hxv
  have hbsz := hbW.size
  have Kb := block_cell hbo
  have Kv := block_cell hob
  have Fv := block_frozen hob
  have hobl := (bl9 hob)
  have hbl := (bl9 hbo)
  cases o with
  | none =>
   have K0 := block_cell hr0
   have K1 := block_cell hr1
   have F0 := block_frozen hr0
   have F1 := block_frozen hr1
   dsimp only [Option.isSome]
   gi_wp2
   refine ⟨KeepsFrom.set2 _ _ _ _ _ _, ⟨⟨_, _, rfl⟩, ?_, ?_⟩, ?_⟩
   ·exact (heap_set_ne (heap_set1 hr0 0 _) (by simp))
   ·exact (heap_set1 (heap_set_ne hr1 (by simp)) 0 _)
   ·exact (hbW.setCell (p := ⟨w.heap.size, 0, none⟩) (Nat.le_refl _) _).setCell (p := ⟨w.heap.size + 1, 0, none⟩) (Nat.le_succ _) _
  | some o =>
   obtain ⟨hpl, s, hsv, hOs⟩ := hX
   dsimp only at hsv hOs
   obtain ⟨kd, dt⟩ := o
   simp at hsv
   obtain ⟨rfl, rfl⟩ := hsv
   dsimp only at hOs
   dsimp only [Option.isSome]
   obtain ⟨ss, hsl, hrow, hdat⟩ := hOw
   obtain ⟨i0, hi, hz0, hz1, hz2⟩ := info_parts info_opt
   have hlo : os.length ≤ 40 := by have := congrArg List.length hos; simp at this; omega
   have hcka : CK W (W.alloc (.cells #[.int .u8 k, .slice sa sl sc] 268)) := CK.of ((Below.refl _ W).alloc (Nat.le_refl _) _)
   have hrowA := ownsRow_ck hrow hcka
   have hnews : ∀ j u, [Value.int .u8 k, .slice sa sl sc][j]? = some u → (W.alloc (.cells #[.int .u8 k, .slice sa sl sc] 268)).cell? ((⟨W.heap.size, 0, none⟩ : Addr).add j) = some u := fun j u hj => by
    rw [show (⟨W.heap.size, 0, none⟩ : Addr).add j = ⟨W.heap.size, j, none⟩ from by unfold Addr.add; split <;> simp_all, block_cell (heap_alloc_new W _) j]
    simpa using hj
   have hbl2 : ∀ r, vr.ownBlock = some r → ∃ cur, (W.alloc (.cells #[.int .u8 k, .slice sa sl sc] 268)).heap[r]? = some (.cells cur 268 (0, 0)) ∧ w.heap.size + 1 + 1 + 1 + 1 ≤ r := fun r hr => by
    rcases hrowA.2 with ⟨rfl, _⟩ | ⟨g, cp, cur, rfl, hg, hh, _⟩
    ·cases hr
    ·cases hr
     exact ⟨cur, hh, hg⟩
   have HNW := hide hnews
   have HRA := hide hrowA
   have HB2 := hide hbl2
   clear hnews hrowA hbl2 hrow
   gi_wp2_with (gi_at_builtin; refine wpListIn_append_own _ rfl (.tmp 13) (.tmp 15) 160 rfl (w.heap.size + 1 + 1 + 1 + 1) 268 i0 (.agg #[.int .u8 0, .slice none 0 0]) 2 32 Tryz.underlying160 hi hz0 hz1 hz2 rfl (by decide) _ os.length (rowO os ss) rfl HRA.out ⟨W.heap.size, 0, none⟩ 1 1 [.int .u8 k, .slice sa sl sc] rfl rfl HNW.out (by intro u hu; simp at hu; rcases hu with rfl | rfl <;> rfl) (by simp only [maxLen]; omega) (by omega) (by simp; omega) ?_; intro v2 W2 hrow2 hg2 hnn; obtain ⟨g2, cp2, rfl⟩ := ownsRow_succ hrow2; have hob2 := (hg2.block (w.heap.size + 1 + 1) (by simp; omega) (fun e => by obtain ⟨_, _, h⟩ := HB2.out _ e.symm; omega)).trans ((Below.heap_alloc W _ (w.heap.size + 1 + 1) hobl).trans hob); have Kv2 := block_cell hob2; have Fv2 := block_frozen hob2)
   have hkeep : ∀ i o, W.heap[i]? = some o → some i ≠ vr.ownBlock → i ≠ w.heap.size + 1 + 1 → (W2.setCell ⟨w.heap.size + 1 + 1, 0, none⟩ (.slice (some ⟨g2, 0, none⟩) (os.length + 1) cp2)).heap[i]? = some o := fun i o hi h1 h2 =>
    heap_set_ne ((hg2.block i (by have := (bl9 hi); simp; omega) h1).trans ((Below.heap_alloc W _ i (bl9 hi)).trans hi)) h2
   have hsz2 : W.heap.size + 1 ≤ W2.heap.size := by have := hg2.size; simpa using this
   have hown2 : (W2.setCell ⟨w.heap.size + 1 + 1, 0, none⟩ (.slice (some ⟨g2, 0, none⟩) (os.length + 1) cp2)).ownsRow (w.heap.size + 1 + 1 + 1 + 1) 268 2 (.slice (some ⟨g2, 0, none⟩) (os.length + 1) cp2) (os.length + 1) (rowO os ss ++ [.int .u8 k, .slice sa sl sc]) := by
    refine ⟨hrow2.1, hrow2.2.imp id ?_⟩
    rintro ⟨g, cp, cur, e1, e2, e3, r⟩
    exact ⟨g, cp, cur, e1, e2, heap_set_ne e3 (by omega), r⟩
   have hdk : ∀ v zs', Ow (w.heap.size + 1 + 1 + 1 + 1) W v zs' → Ow (w.heap.size + 1 + 1 + 1 + 1) (W2.setCell ⟨w.heap.size + 1 + 1, 0, none⟩ (.slice (some ⟨g2, 0, none⟩) (os.length + 1) cp2)) v zs' := fun v zs' h => by
    rcases h with h | ⟨g, cp, cur, e1, e2, e3, e4, e5, e6, e7⟩
    ·exact .inl h
    ·refine .inr ⟨g, cp, cur, e1, e2, e3, e4, e5, hkeep g _ e6 (fun e => ?_) (by omega), e7⟩
     obtain ⟨c2, h2, _⟩ := HB2.out g e.symm
     rw [Below.heap_alloc W _ g (bl9 e6), e6] at h2
     simp at h2
   have hbn : Below w.heap.size W (W2.setCell ⟨w.heap.size + 1 + 1, 0, none⟩ (.slice (some ⟨g2, 0, none⟩) (os.length + 1) cp2)) := ⟨hg2.os, hg2.tape, hg2.output, by simp; omega, fun i hi => by
    cases hh : W.heap[i]? with
    | none => have := Array.getElem?_eq_none_iff.1 hh; omega
    | some o => exact hkeep i o hh (fun e => by obtain ⟨_, _, h⟩ := HB2.out _ e.symm; omega) (by omega)⟩
   refine ⟨⟨by simp; omega, fun i o hi ho hc => hkeep i o ho (fun e => ?_) (by omega)⟩, ⟨hbn, ?_⟩, ⟨⟨os ++ [(k, dt)], (.slice (some ⟨g2, 0, none⟩) (os.length + 1) cp2), by simp [hos], heap_set1 hob2 0 _, ss ++ [.slice sa sl sc], by simp [hsl], ?_, ?_⟩, ?_, ?_⟩, hbW.trans hbn⟩
   ·obtain ⟨c2, h2, _⟩ := HB2.out i e.symm
    rw [Below.heap_alloc W _ i (bl9 ho), ho] at h2
    cases h2
    cases hc
   ·cases hh : W.heap[w.heap.size + 1 + 1 + 1]? with
    | none => have := Array.getElem?_eq_none_iff.1 hh; omega
    | some o => exact hkeep _ o hh (fun e => by obtain ⟨_, _, h⟩ := HB2.out _ e.symm; omega) (by omega)
   ·rw [List.length_append, List.length_singleton, rowO_snoc os ss hsl]
    exact hown2
   ·intro j hj
    simp at hj
    by_cases h : j < os.length
    ·rw [List.getElem?_append_left h, List.getElem?_append_left (by omega)]
     exact hdk _ _ (hdat j h)
    ·obtain rfl : j = os.length := by omega
     rw [List.getElem?_append_right (Nat.le_refl _), List.getElem?_append_right (by omega), hsl]
     simpa using hdk _ _ hOs
   ·exact hkeep _ _ hr0 (fun e => by obtain ⟨_, _, h⟩ := HB2.out _ e.symm; omega) (by omega)
   ·exact hkeep _ _ hr1 (fun e => by obtain ⟨_, _, h⟩ := HB2.out _ e.symm; omega) (by omega)
 case done =>
  rintro D xs W hD hS ⟨⟨⟨os, v, h1, h2, h3⟩, h4, h5⟩, hbW⟩ hK
  obtain ⟨av, cv, rfl, _, _⟩ := h3.slice
  have hbsz := hbW.size
  have hopts : opts zs = some os := by
   rcases hS with ⟨os', e1, e2⟩ | ⟨_, l', v', rfl⟩
   ·rw [e1]
    congr 1
    rw [h1] at e2
    have := congrArg (List.filterMap id) e2
    simpa [List.filterMap_map] using this.symm
   ·have := congrArg List.getLast? h1
    cases hl : os.getLast? <;> simp [hl] at this
  have K2 := block_cell h2
  have K4 := block_cell h4
  have K5 := block_cell h5
  have F4 := block_frozen h4
  have F5 := block_frozen h5
  have HOP := hide hopts
  clear hopts h1 hS
  gi_wp2
  have r4 : ((W.setCell ⟨w.heap.size, 0, none⟩ (.slice av os.length cv)).setCell ⟨w.heap.size + 1, 0, none⟩ (.bool true)).heap[w.heap.size]? = some (.cells #[.slice av os.length cv] 160 (0, 0)) := heap_set_ne (heap_set1 h4 0 _) (by simp)
  have r5 : ((W.setCell ⟨w.heap.size, 0, none⟩ (.slice av os.length cv)).setCell ⟨w.heap.size + 1, 0, none⟩ (.bool true)).heap[w.heap.size + 1]? = some (.cells #[.bool true] 4 (0, 0)) := heap_set1 (heap_set_ne h5 (by simp)) 0 _
  have rD : ((W.setCell ⟨w.heap.size, 0, none⟩ (.slice av os.length cv)).setCell ⟨w.heap.size + 1, 0, none⟩ (.bool true)).heap[D]? = some (.deferred (some [])) := heap_set_ne (heap_set_ne hK (by omega)) (by omega)
  have hE : But (fun b => b = w.heap.size ∨ b = w.heap.size + 1) W ((W.setCell ⟨w.heap.size, 0, none⟩ (.slice av os.length cv)).setCell ⟨w.heap.size + 1, 0, none⟩ (.bool true)) := ((But.refl _ W).setCell (p := ⟨w.heap.size, 0, none⟩) (.inl rfl) _).setCell (p := ⟨w.heap.size + 1, 0, none⟩) (.inr rfl) _
  generalize (W.setCell ⟨w.heap.size, 0, none⟩ (.slice av os.length cv)).setCell ⟨w.heap.size + 1, 0, none⟩ (.bool true) = V at *
  have hbV : Below w.heap.size w V := hbW.trans (hE.below hbW.size (fun k h e => by omega))
  have hOV := h3.but hE (fun b h e => by omega)
  have q4 := (CK.put (o' := .deferred none) rD rfl).2 _ _ r4 rfl
  have q5 := (CK.put (o' := .deferred none) rD rfl).2 _ _ r5 rfl
  have Q4 := block_cell q4
  have Q5 := block_cell q5
  refine ⟨by simp, .inl ⟨_, _, rfl, run_takeDeferred rD, ?_⟩⟩
  exact ⟨.tuple #[.slice av os.length cv, .bool true], by simp [results, Tryz.results185, go_sem, Q4, Q5], hbV.trans (belowK_b (w := w) (Nat.le_refl _) V D _ _ (by omega) rD rfl rfl), .inr ⟨os, _, HOP.out, rfl, (hOV.ck (CK.put rD rfl)).mono (by omega)⟩⟩
 case stop =>
  rintro D pre W hD hSp ⟨⟨hl, h4, h5⟩, hbW⟩ hK
  have hno := hSp hl
  have q4 := (CK.put (o' := .deferred none) hK rfl).2 _ _ h4 rfl
  have q5 := (CK.put (o' := .deferred none) hK rfl).2 _ _ h5 rfl
  have Q4 := block_cell q4
  have Q5 := block_cell q5
  gi_wp2
  refine ⟨by simp, .inl ⟨_, _, rfl, run_takeDeferred hK, ?_⟩⟩
  exact ⟨.tuple #[.slice none 0 0, .bool false], by simp [results, Tryz.results185, go_sem, Q4, Q5], hbW.trans (belowK_b (w := w) (Nat.le_refl _) W D _ _ (by omega) hK rfl rfl), .inl ⟨hno, rfl⟩⟩
def thd (zs : List Int) : Int := zs[12]?.getD 0 / 16 * 4
def ptc (proto src dst : Int) (zs : List Int) : Int := if proto ≠ 6 then 12 else if zs.length < 20 then 3 else if thd zs < 20 ∨ zs[12]?.getD 0 % 16 ≠ 0 then 4 else if (zs.length : Int) < thd zs then 3 else if Mt.cks (psd src dst 6 zs.length ++ zs) ≠ 0 then 5 else 0
theorem tcpHead_any (tos id ttl proto src dst : Int) (keep : Bool) (so sd : Value) (zs : List Int) (w : World) (hB : Mt.By zs) (hI : Rd w.heap.size w sd zs) (hl : 12 + zs.length ≤ 140737488355328) (hsr : 0 ≤ src ∧ src ≤ 4294967295) (hds : 0 ≤ dst ∧ dst ≤ 4294967295) :
  Calls Tryz.prog 184 #[.agg #[.int .u8 tos, .int .u16 id, .bool keep, .int .u8 ttl, .int .u8 proto, .int .u32 src, .int .u32 dst, so, sd]] w fun e w' => Below w.heap.size w w' ∧ ((ptc proto src dst zs ≠ 0 ∧ e = .returned (.tuple #[.int .i64 0, .int .i64 (ptc proto src dst zs)])) ∨ (ptc proto src dst zs = 0 ∧ e = .returned (.tuple #[.int .i64 (thd zs), .int .i64 0]))) := by
 obtain ⟨ad, cd, rfl, hl1, hm1⟩ := hI.slice
 have hb0 : Below w.heap.size w (w.alloc (.cells #[.int .u8 tos, .int .u16 id, .bool keep, .int .u8 ttl, .int .u8 proto, .int .u32 src, .int .u32 dst, so, .slice ad zs.length cd] 56)) := (Below.refl _ _).alloc (Nat.le_refl _) _
 by_cases c1 : proto = 6
 ·have t1 : (proto != 6) = false := by simp [c1]
  have C1 := hide c1
  clear c1
  by_cases c2 : zs.length < 20
  ·have HF : Hid (ptc proto src dst zs = 3) := by show _ = _; unfold ptc; rw [if_neg (by simp [C1.out]), if_pos c2]
   have t2 : (zs.length : Int) < 20 := by omega
   clear c2
   go_enter Tryz.func184, Tryz.ntmps184
   go_wp2_with fail
   exact bodyPost_ret (v := .tuple #[.int .i64 0, .int .i64 3]) (by simp [results, Tryz.results184, go_sem]) rfl ⟨hb0, .inl ⟨by rw [HF.out]; decide, by rw [HF.out]⟩⟩
  ·have t2 : ¬ (zs.length : Int) < 20 := by omega
   obtain ⟨b, off, cap, e0, hlc, hmc, hbb, hcs⟩ := hI.cells (by omega)
   simp at e0
   obtain ⟨rfl, rfl⟩ := e0
   have d0 := (hb0.cell (p := ⟨b, off + 12, none⟩) hbb).trans (hcs 12 (by omega))
   have b0 := hB.at 12
   have i12 : (12 : Int) < zs.length := by omega
   clear hcs
   have HTH : Hid (thd zs = zs[12]?.getD 0 / 16 * 4) := rfl
   have HC2 := hide c2
   generalize hx : zs[12]?.getD 0 = x at d0 b0 HTH
   have HX := hide hx
   have hand := and15 x b0
   clear hx c2
   by_cases c3 : x / 16 * 4 < 20
   ·have HF : Hid (ptc proto src dst zs = 4) := by show _ = _; unfold ptc; rw [if_neg (by simp [C1.out]), if_neg HC2.out, if_pos (.inl (by rw [HTH.out]; exact c3))]
    go_enter Tryz.func184, Tryz.ntmps184
    go_wp2_with fail
    exact bodyPost_ret (v := .tuple #[.int .i64 0, .int .i64 4]) (by simp [results, Tryz.results184, go_sem]) rfl ⟨hb0, .inl ⟨by rw [HF.out]; decide, by rw [HF.out]⟩⟩
   ·by_cases c4 : x % 16 = 0
    ·have t4 : (x % 16 != 0) = false := by simp [c4]
     by_cases c5 : (zs.length : Int) < x / 16 * 4
     ·have HF : Hid (ptc proto src dst zs = 3) := by show _ = _; unfold ptc; rw [if_neg (by simp [C1.out]), if_neg HC2.out, if_neg (by rw [HTH.out, HX.out]; omega), if_pos (by rw [HTH.out]; exact c5)]
      have C4 := hide c4
      clear c4
      go_enter Tryz.func184, Tryz.ntmps184
      go_wp2_with fail
      exact bodyPost_ret (v := .tuple #[.int .i64 0, .int .i64 3]) (by simp [results, Tryz.results184, go_sem]) rfl ⟨hb0, .inl ⟨by rw [HF.out]; decide, by rw [HF.out]⟩⟩
     ·have C4 := hide c4
      clear c4
      have hBs := (By_psd src dst 6 zs.length hsr hds (by omega)).append hB
      have hln : (psd src dst 6 zs.length ++ zs).length = 12 + zs.length := by rw [List.length_append, psd_length]
      have hBS := hide hBs
      have HLN := hide hln
      clear hBs hln
      go_enter Tryz.func184, Tryz.ntmps184
      go_wp2_with fail
      rw [C1.out]
      refine (summed_any tos id ttl 6 src dst keep _ _ zs _ ((hI.below (by rw [C1.out] at hb0; exact hb0)).mono (by simp)) hl hsr hds).mono ?_
      rintro e w3 ⟨a3, c3', rfl, hO3, hb3⟩
      rw [C1.out] at hb0
      generalize hgW : w.alloc (.cells #[.int .u8 tos, .int .u16 id, .bool keep, .int .u8 ttl, .int .u8 6, .int .u32 src, .int .u32 dst, so, .slice (some ⟨b, off, none⟩) zs.length cd] 56) = W0 at *
      clear hgW
      go_wp2_with fail
      rw [← HLN.out] at hO3 ⊢
      refine (good_any _ _ hBS.out (by rw [HLN.out]; exact hl) w3 hO3.rd).mono ?_
      rintro e w4 ⟨rfl, hb4⟩
      have hw4 : Below w.heap.size w w4 := hb0.trans ((hb3.trans (hb4.mono hb3.size)).mono hb0.size)
      by_cases c6 : Mt.cks (psd src dst 6 zs.length ++ zs) = 0
      ·have t6 : (Mt.cks (psd src dst 6 zs.length ++ zs) == 0) = true := by simp [c6]
       have HF : Hid (ptc proto src dst zs = 0) := by show _ = _; unfold ptc; rw [if_neg (by simp [C1.out]), if_neg HC2.out, if_neg (by rw [HTH.out, HX.out]; have := C4.out; omega), if_neg (by rw [HTH.out]; omega), if_neg (by simp [c6])]
       clear c6
       go_wp2_with fail
       exact bodyPost_ret (v := .tuple #[.int .i64 (x / 16 * 4), .int .i64 0]) (by simp [results, Tryz.results184, go_sem]) rfl ⟨hw4, .inr ⟨HF.out, by rw [HTH.out]⟩⟩
      ·have t6 : (Mt.cks (psd src dst 6 zs.length ++ zs) == 0) = false := by simp [c6]
       have HF : Hid (ptc proto src dst zs = 5) := by show _ = _; unfold ptc; rw [if_neg (by simp [C1.out]), if_neg HC2.out, if_neg (by rw [HTH.out, HX.out]; have := C4.out; omega), if_neg (by rw [HTH.out]; omega), if_pos c6]
       clear c6
       go_wp2_with fail
       exact bodyPost_ret (v := .tuple #[.int .i64 0, .int .i64 5]) (by simp [results, Tryz.results184, go_sem]) rfl ⟨hw4, .inl ⟨by rw [HF.out]; decide, by rw [HF.out]⟩⟩
    ·have t4 : (x % 16 != 0) = true := by simp [c4]
     have HF : Hid (ptc proto src dst zs = 4) := by show _ = _; unfold ptc; rw [if_neg (by simp [C1.out]), if_neg HC2.out, if_pos (.inr (by rw [HX.out]; exact c4))]
     clear c4
     go_enter Tryz.func184, Tryz.ntmps184
     go_wp2_with fail
     exact bodyPost_ret (v := .tuple #[.int .i64 0, .int .i64 4]) (by simp [results, Tryz.results184, go_sem]) rfl ⟨hb0, .inl ⟨by rw [HF.out]; decide, by rw [HF.out]⟩⟩
 ·have t1 : (proto != 6) = true := by simp [c1]
  have HF : Hid (ptc proto src dst zs = 12) := by show _ = _; unfold ptc; rw [if_pos c1]
  clear c1
  go_enter Tryz.func184, Tryz.ntmps184
  go_wp2_with fail
  exact bodyPost_ret (v := .tuple #[.int .i64 0, .int .i64 12]) (by simp [results, Tryz.results184, go_sem]) rfl ⟨hb0, .inl ⟨by rw [HF.out]; decide, by rw [HF.out]⟩⟩
end Go.Proofs.YtofknbfbmaefoaaGreatDoor
