/- The document's table as it lies in memory; where a tuple's row stands. -/
import Derived.Test.YtahphjindjlcpaaBR
namespace Go.Proofs.Ytahphjindjlcpaa
open Go.RowKit Go.Shelf
set_option maxRecDepth 100000
set_option linter.unusedVariables false
set_option linter.unusedSimpArgs false

/-- What one's own row of the document's rows reads as. -/
theorem ownD_rd {base : Nat} {W : World} {v : Value} {l : List Rw} (h : W.ownsRow base 86 8 v l.length (rws l)) : RdR W.heap.size W v l := by
  obtain ⟨h1, ⟨rfl, h0⟩ | ⟨g, cap, cur, rfl, hg, hh, hl, hm, hs, hc⟩⟩ := h
  · have : l = [] := List.eq_nil_of_length_eq_zero h0
    subst this
    exact .inl ⟨none, 0, rfl, rfl, by omega, fun _ => rfl⟩
  · by_cases hn : l = []
    · subst hn
      exact .inl ⟨_, cap, rfl, rfl, by simpa [maxLen] using hm, fun h => by cases h⟩
    · refine .inr ⟨g, 0, cap, rfl, hn, hl, by simpa [maxLen] using hm, (Array.getElem?_eq_some_iff.1 hh).1, fun j hj i hi => ?_⟩
      rw [Nat.zero_add, block_cell hh, ← rws_at l j i hj hi, ← hc, List.getElem?_take_of_lt (by omega)]
      simp
theorem ownD_later {base : Nat} {A B : World} {v : Value} {n : Nat} {xs : List Value} (h : A.ownsRow base 86 8 v n xs) (l : Later A B) : B.ownsRow base 86 8 v n xs := by
  obtain ⟨h1, h2 | ⟨g, cap, cur, hv, hg, hh, r⟩⟩ := h
  · exact ⟨h1, .inl h2⟩
  · exact ⟨h1, .inr ⟨g, cap, cur, hv, hg, later_keep l hh, r⟩⟩
/-- The document's table: at block b, its rows in a list. -/
def DT (base : Nat) (W : World) (b : Nat) (v : Value) (lim sq : Int) (l : List Rw) : Prop := base ≤ b ∧ W.heap[b]? = some (.cells #[v, .int .i64 lim, .int .i64 sq] 69 (0, 0)) ∧ W.ownsRow base 86 8 v l.length (rws l)
theorem DT.later {base : Nat} {A B : World} {b : Nat} {v : Value} {lim sq : Int} {l : List Rw} (h : DT base A b v lim sq l) (k : Later A B) : DT base B b v lim sq l := ⟨h.1, later_keep k h.2.1, ownD_later h.2.2 k⟩
theorem DT.blt {base : Nat} {W : World} {b : Nat} {v : Value} {lim sq : Int} {l : List Rw} (h : DT base W b v lim sq l) : b < W.heap.size := (Array.getElem?_eq_some_iff.1 h.2.1).1
theorem DT.lt {base : Nat} {W : World} {b : Nat} {v : Value} {lim sq : Int} {l : List Rw} (h : DT base W b v lim sq l) {g : Nat} (e : v.ownBlock = some g) : base ≤ g ∧ g < W.heap.size := h.2.2.lt g e
theorem DT.ne {t2 : TypeId} {base : Nat} {W : World} {b c : Nat} {v : Value} {lim sq : Int} {l : List Rw} {cur : Array Value} (h : DT base W b v lim sq l) (hc : W.heap[c]? = some (.cells cur t2 (0, 0))) (ht : t2 ≠ 86) : v.ownBlock ≠ some c := fun e => by
  obtain ⟨h1, ⟨hn, _⟩ | ⟨g, cap, cu, hv, hg, hh, r⟩⟩ := h.2.2
  · rw [hn] at e; cases e
  · rw [hv] at e
    cases e
    rw [hc] at hh
    simp at hh
    exact ht hh.2

/-- A tuple's place; -1: none. -/
def rix (o : Option Nat) : Int := match o with | some k => (k : Int) | none => -1
theorem rix_some (k : Nat) : rix (some k) = (k : Int) := rfl
theorem rix_none : rix none = -1 := rfl
theorem But.laterF {a b : World} (h : But (fun _ => False) a b) : Later a b := ⟨h.os, h.tape, h.output, h.size, fun i hi => h.block i hi (fun e => e)⟩

theorem exec_teql (ρ : Operand → Value) (o : Oper) (x y : Operand) (ty : TypeId) (hop : o.op = .binOp .eql 26 x y ty) (p s d a b p2 s2 d2 a2 b2 : Int) (hx : ρ x = .agg #[.int .u8 p, .int .u32 s, .int .u32 d, .int .u16 a, .int .u16 b]) (hy : ρ y = .agg #[.int .u8 p2, .int .u32 s2, .int .u32 d2, .int .u16 a2, .int .u16 b2]) (w : World) : (execOp ρ o).run Try.prog w = .ok (.value (.bool (p == p2 && (s == s2 && (d == d2 && (a == a2 && b == b2)))))) w := by
  unfold execOp
  rw [hop]
  simp only [hx, hy]
  go_simp
  by_cases h1 : p = p2 <;> by_cases h2 : s = s2 <;> by_cases h3 : d = d2 <;> by_cases h4 : a = a2 <;> by_cases h5 : b = b2 <;> simp [h1, h2, h3, h4, h5]

set_option maxHeartbeats 8000000 in
theorem at_any (base bt : Nat) (v : Value) (lim sq : Int) (l : List Rw) (p s d a b : Int) (w : World) (hT : DT base w bt v lim sq l) :
    Calls Try.prog 42 #[.pointer (some ⟨bt, 0, none⟩), .agg #[.int .u8 p, .int .u32 s, .int .u32 d, .int .u16 a, .int .u16 b]] w fun e w' => e = .returned (.int .i64 (rix (kix p s d (kyp p a) b l))) ∧ Later w w' := by
  have lb0 : Later w (w.alloc (.cells #[.int .u8 p, .int .u32 s, .int .u32 d, .int .u16 a, .int .u16 b] 26)) := (Below.refl _ _).alloc (Nat.le_refl _) _
  have t0 := heap_alloc_new w (.cells #[.int .u8 p, .int .u32 s, .int .u32 d, .int .u16 a, .int .u16 b] 26)
  obtain ⟨av, cv, rfl, hcv1, hcv2⟩ := (ownD_rd hT.2.2).slice
  have HRD := hide (ownD_rd hT.2.2)
  go_enter Try.func42, Try.ntmps42
  go_wp2_with fail
  generalize w.alloc _ = w0 at *
  go_loopw [5] (fun i wr => ∃ k : Nat, k ≤ l.length ∧ i = .int .i64 (k : Int) ∧ (∀ j (hj : j < l.length), j < k → isK p s d (kyp p a) b l[j] = false) ∧ Later w0 wr) (fun i _ => l.length - (intOf i).toNat)
  case atStart => exact ⟨0, by omega, rfl, fun j _ h => by omega, Later.refl _⟩
  case round =>
    obtain ⟨k, hk, rfl, hz, hbw⟩ := hrel
    have HZ := hide hz
    clear hz
    have lw := lb0.trans hbw
    have hTr := hT.later lw
    have kT := block_cell hTr.2.1
    by_cases hlt : k < l.length
    · have hlt' : (k : Int) < l.length := by omega
      go_upto_region 4 with fail
      clear kT
      refine anyT_begin (R := But (fun _ => False)) 11 rfl (by kernel_rfl) ?_
      have ld : Later wr wr.drew := Later.drew wr
      have lwd := lw.trans ld
      have t1 := later_keep (hbw.trans ld) t0
      generalize wr.drew = Wd at *
      obtain ⟨bb, off, cp, e, _, _, hbb, hcs⟩ := (HRD.out.below lwd).cells (by omega)
      simp at e
      obtain ⟨rfl, rfl⟩ := e
      have hwsz := lwd.size
      have hTd := hT.later lwd
      generalize hgo : l[k] = y at *
      have hA : ∀ v1, But (fun _ => False) Wd v1 → ∀ j, v1.cell? ⟨w.heap.size, j, none⟩ = #[Value.int .u8 p, .int .u32 s, .int .u32 d, .int .u16 a, .int .u16 b][j]? := fun v1 hv => block_cell (later_keep hv.laterF t1)
      have hB : ∀ v1, But (fun _ => False) Wd v1 → ∀ j, v1.cell? ⟨bt, j, none⟩ = #[Value.slice (some ⟨bb, off, none⟩) l.length cv, .int .i64 lim, .int .i64 sq][j]? := fun v1 hv => block_cell (later_keep hv.laterF hTd.2.1)
      have hcc : ∀ i, i < 8 → ∀ v1, But (fun _ => False) Wd v1 → v1.cell? ⟨bb, off + k * 8 + i, none⟩ = (rwc y)[i]? := fun i hi v1 hv => (Below.cell (B := Wd.heap.size) hv.laterF (p := ⟨bb, off + k * 8 + i, none⟩) (Nat.lt_of_lt_of_le hbb hwsz)).trans (by have := hcs k hlt i hi; rw [hgo] at this; exact this)
      have c0 := hcc 0 (by omega)
      have c1 := hcc 1 (by omega)
      have c2 := hcc 2 (by omega)
      have c3 := hcc 3 (by omega)
      have c4 := hcc 4 (by omega)
      have HGO := hide hgo
      clear hcc hcs hgo
      simp only [rwc, List.getElem?_cons_zero, List.getElem?_cons_succ, Nat.add_zero] at c0 c1 c2 c3 c4
      refine anyT_val (But.pre _) 0 rfl (by kernel_rfl) (by kernel_rfl) (by kernel_rfl) (fun _ _ _ _ h => h) rfl ?_; apply Exists.intro; refine ⟨fun v1 hv1 => ?_, ?_⟩; (· (go_simp; rfl)); simp only [Act.put, List.setIfInBounds_toArray, List.set_cons_zero, List.set_cons_succ]
      refine anyT_val (But.pre _) 1 rfl (by kernel_rfl) (by kernel_rfl) (by kernel_rfl) (fun _ _ _ _ h => h) rfl ?_; apply Exists.intro; refine ⟨fun v1 hv1 => ?_, ?_⟩; (· (go_simp; rfl)); simp only [Act.put, List.setIfInBounds_toArray, List.set_cons_zero, List.set_cons_succ]
      refine anyT_val (But.pre _) 2 rfl (by kernel_rfl) (by kernel_rfl) (by kernel_rfl) (fun _ _ _ _ h => h) rfl ?_; apply Exists.intro; refine ⟨fun v1 hv1 => ?_, ?_⟩; (· (go_simp; rfl)); simp only [Act.put, List.setIfInBounds_toArray, List.set_cons_zero, List.set_cons_succ]
      refine anyT_val (But.pre _) 3 rfl (by kernel_rfl) (by kernel_rfl) (by kernel_rfl) (fun _ _ _ _ h => h) rfl ?_; apply Exists.intro; refine ⟨fun v1 hv1 => ?_, ?_⟩; (· (go_simp; rfl)); simp only [Act.put, List.setIfInBounds_toArray, List.set_cons_zero, List.set_cons_succ]
      refine anyT_val (But.pre _) 4 rfl (by kernel_rfl) (by kernel_rfl) (by kernel_rfl) (fun _ _ _ _ h => h) rfl ?_; apply Exists.intro; refine ⟨fun v1 hv1 => ?_, ?_⟩; (· (go_simp; rfl)); simp only [Act.put, List.setIfInBounds_toArray, List.set_cons_zero, List.set_cons_succ]
      refine anyT_val (But.pre _) 5 rfl (by kernel_rfl) (by kernel_rfl) (by kernel_rfl) (fun _ _ _ _ h => h) rfl ?_; apply Exists.intro; refine ⟨fun v1 hv1 => ?_, ?_⟩; (· (go_simp; rfl)); simp only [Act.put, List.setIfInBounds_toArray, List.set_cons_zero, List.set_cons_succ]
      refine anyT_val (But.pre _) 6 rfl (by kernel_rfl) (by kernel_rfl) (by kernel_rfl) (fun _ _ _ _ h => h) rfl ?_; apply Exists.intro; refine ⟨fun v1 hv1 => ?_, ?_⟩; (· (go_simp; rfl)); simp only [Act.put, List.setIfInBounds_toArray, List.set_cons_zero, List.set_cons_succ]
      refine anyT_val (But.pre _) 7 rfl (by kernel_rfl) (by kernel_rfl) (by kernel_rfl) (fun _ _ _ _ h => h) rfl ?_; apply Exists.intro; refine ⟨fun v1 hv1 => ?_, ?_⟩; (· (go_simp; rfl)); simp only [Act.put, List.setIfInBounds_toArray, List.set_cons_zero, List.set_cons_succ]
      refine anyT_val (But.pre _) 8 rfl (by kernel_rfl) (by kernel_rfl) (by kernel_rfl) (fun _ _ _ _ h => h) rfl ?_; apply Exists.intro; refine ⟨fun v1 hv1 => ?_, ?_⟩; (· (go_simp; rfl)); simp only [Act.put, List.setIfInBounds_toArray, List.set_cons_zero, List.set_cons_succ]
      clear hA hB c0 c1 c2 c3 c4
      refine anyT_one 9 rfl (by kernel_rfl) rfl ?_
      refine wp_enter 45 #[.agg #[.int .u8 p, .int .u32 s, .int .u32 d, .int .u16 a, .int .u16 b]] (by go_simp) ?_
      refine (rkey_any p s d a b Wd).mono ?_
      rintro e W1 ⟨rfl, hb1⟩
      have k1 : Later Wd W1 := hb1
      refine ⟨But.of k1, ?_⟩
      simp only [Act.put, List.setIfInBounds_toArray, List.set_cons_zero, List.set_cons_succ]
      refine anyT_val (But.pre _) 10 rfl (by kernel_rfl) (by kernel_rfl) (by kernel_rfl) (fun _ _ _ _ h => h) rfl ⟨.bool (isK p s d (kyp p a) b y), fun v1 hv1 => exec_teql _ _ (.tmp 26) (.tmp 28) _ rfl y.p y.s y.d y.a y.b p s d (kyp p a) b rfl rfl v1, ?_⟩
      simp only [Act.put, List.setIfInBounds_toArray, List.set_cons_zero, List.set_cons_succ]
      refine anyT_done (by kernel_rfl) ?_
      have LW1 := lwd.trans k1
      have M1 := hbw.trans (ld.trans k1)
      cases hq : isK p s d (kyp p a) b y with
      | true =>
        have hkx := kix_some hlt HZ.out (by rw [HGO.out]; exact hq)
        have HKX := hide hkx
        clear hkx hq
        go_wp2_with fail
        go_ret
        exact ⟨by rw [HKX.out]; rfl, LW1⟩
      | false =>
        have HQ := hide hq
        clear hq
        go_wp2_with fail
        go_roundw
        case rel => exact ⟨k + 1, by omega, by go_num, fun j hj hjk => by by_cases h : j = k; (subst h; rw [HGO.out]; exact HQ.out); exact HZ.out j hj (by omega), M1⟩
        case measure => simp [intOf]; omega
    · obtain rfl : k = l.length := by omega
      have hkx := kix_none (fun j hj => HZ.out j hj hj)
      have HKX := hide hkx
      clear hkx
      go_wp2_with fail
      go_ret
      exact ⟨by rw [HKX.out]; rfl, lw⟩
end Go.Proofs.Ytahphjindjlcpaa
