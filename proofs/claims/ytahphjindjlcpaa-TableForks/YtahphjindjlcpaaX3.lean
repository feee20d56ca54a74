/- Several texts in one. -/
import Derived.Test.YtahphjindjlcpaaBR
import Derived.Test.YtahphjindjlcpaaRt
import Derived.Deep.Upon
/- The document's table as it lies in memory; where a tuple's row stands. -/
namespace Go.Proofs.Ytahphjindjlcpaa
open Go.RowKit Go.Shelf
set_option maxRecDepth 100000
set_option linter.unusedVariables false
set_option linter.unusedSimpArgs false

/-- What one's own row of the document's rows reads as. -/
theorem ownD_rd {base : Nat} {W : World} {v : Value} {l : List Rw} (h : W.ownsRow base 86 8 v l.length (rws l)) : RdR W.heap.size W v l := by
  obtain ⟨h1, ⟨rfl, h0⟩ | ⟨g, cap, cur, rfl, hg, hh, hl, hm, hs, hc⟩⟩ := h
  · have : l = [] := List.eq_nil_of_length_eq_zero h0
    subst this
    exact .inl ⟨none, 0, rfl, rfl, by omega, fun _ => rfl⟩
  · by_cases hn : l = []
    · subst hn
      exact .inl ⟨_, cap, rfl, rfl, by simpa [maxLen] using hm, fun h => by cases h⟩
    · refine .inr ⟨g, 0, cap, rfl, hn, hl, by simpa [maxLen] using hm, (Array.getElem?_eq_some_iff.1 hh).1, fun j hj i hi => ?_⟩
      rw [Nat.zero_add, block_cell hh, ← rws_at l j i hj hi, ← hc, List.getElem?_take_of_lt (by omega)]
      simp
theorem ownD_later {base : Nat} {A B : World} {v : Value} {n : Nat} {xs : List Value} (h : A.ownsRow base 86 8 v n xs) (l : Later A B) : B.ownsRow base 86 8 v n xs := by
  obtain ⟨h1, h2 | ⟨g, cap, cur, hv, hg, hh, r⟩⟩ := h
  · exact ⟨h1, .inl h2⟩
  · exact ⟨h1, .inr ⟨g, cap, cur, hv, hg, later_keep l hh, r⟩⟩
/-- The document's table: at block b, its rows in a list. -/
def DT (base : Nat) (W : World) (b : Nat) (v : Value) (lim sq : Int) (l : List Rw) : Prop := base ≤ b ∧ W.heap[b]? = some (.cells #[v, .int .i64 lim, .int .i64 sq] 69 (0, 0)) ∧ W.ownsRow base 86 8 v l.length (rws l)
theorem DT.later {base : Nat} {A B : World} {b : Nat} {v : Value} {lim sq : Int} {l : List Rw} (h : DT base A b v lim sq l) (k : Later A B) : DT base B b v lim sq l := ⟨h.1, later_keep k h.2.1, ownD_later h.2.2 k⟩
theorem DT.blt {base : Nat} {W : World} {b : Nat} {v : Value} {lim sq : Int} {l : List Rw} (h : DT base W b v lim sq l) : b < W.heap.size := (Array.getElem?_eq_some_iff.1 h.2.1).1
theorem DT.lt {base : Nat} {W : World} {b : Nat} {v : Value} {lim sq : Int} {l : List Rw} (h : DT base W b v lim sq l) {g : Nat} (e : v.ownBlock = some g) : base ≤ g ∧ g < W.heap.size := h.2.2.lt g e
theorem DT.ne {t2 : TypeId} {base : Nat} {W : World} {b c : Nat} {v : Value} {lim sq : Int} {l : List Rw} {cur : Array Value} (h : DT base W b v lim sq l) (hc : W.heap[c]? = some (.cells cur t2 (0, 0))) (ht : t2 ≠ 86) : v.ownBlock ≠ some c := fun e => by
  obtain ⟨h1, ⟨hn, _⟩ | ⟨g, cap, cu, hv, hg, hh, r⟩⟩ := h.2.2
  · rw [hn] at e; cases e
  · rw [hv] at e
    cases e
    rw [hc] at hh
    simp at hh
    exact ht hh.2

/-- A tuple's place; -1: none. -/
def rix (o : Option Nat) : Int := match o with | some k => (k : Int) | none => -1
theorem rix_some (k : Nat) : rix (some k) = (k : Int) := rfl
theorem rix_none : rix none = -1 := rfl
theorem But.laterF {a b : World} (h : But (fun _ => False) a b) : Later a b := ⟨h.os, h.tape, h.output, h.size, fun i hi => h.block i hi (fun e => e)⟩

theorem exec_teql (ρ : Operand → Value) (o : Oper) (x y : Operand) (ty : TypeId) (hop : o.op = .binOp .eql 26 x y ty) (p s d a b p2 s2 d2 a2 b2 : Int) (hx : ρ x = .agg #[.int .u8 p, .int .u32 s, .int .u32 d, .int .u16 a, .int .u16 b]) (hy : ρ y = .agg #[.int .u8 p2, .int .u32 s2, .int .u32 d2, .int .u16 a2, .int .u16 b2]) (w : World) : (execOp ρ o).run Try.prog w = .ok (.value (.bool (p == p2 && (s == s2 && (d == d2 && (a == a2 && b == b2)))))) w := by
  unfold execOp
  rw [hop]
  simp only [hx, hy]
  go_simp
  by_cases h1 : p = p2 <;> by_cases h2 : s = s2 <;> by_cases h3 : d = d2 <;> by_cases h4 : a = a2 <;> by_cases h5 : b = b2 <;> simp [h1, h2, h3, h4, h5]

set_option maxHeartbeats 8000000 in
theorem at_any (base bt : Nat) (v : Value) (lim sq : Int) (l : List Rw) (p s d a b : Int) (w : World) (hT : DT base w bt v lim sq l) :
    Calls Try.prog 42 #[.pointer (some ⟨bt, 0, none⟩), .agg #[.int .u8 p, .int .u32 s, .int .u32 d, .int .u16 a, .int .u16 b]] w fun e w' => e = .returned (.int .i64 (rix (kix p s d (kyp p a) b l))) ∧ Later w w' := by
  have lb0 : Later w (w.alloc (.cells #[.int .u8 p, .int .u32 s, .int .u32 d, .int .u16 a, .int .u16 b] 26)) := (Below.refl _ _).alloc (Nat.le_refl _) _
  have t0 := heap_alloc_new w (.cells #[.int .u8 p, .int .u32 s, .int .u32 d, .int .u16 a, .int .u16 b] 26)
  obtain ⟨av, cv, rfl, hcv1, hcv2⟩ := (ownD_rd hT.2.2).slice
  have HRD := hide (ownD_rd hT.2.2)
  go_enter Try.func42, Try.ntmps42
  go_wp2_with fail
  generalize w.alloc _ = w0 at *
  go_loopw [5] (fun i wr => ∃ k : Nat, k ≤ l.length ∧ i = .int .i64 (k : Int) ∧ (∀ j (hj : j < l.length), j < k → isK p s d (kyp p a) b l[j] = false) ∧ Later w0 wr) (fun i _ => l.length - (intOf i).toNat)
  case atStart => exact ⟨0, by omega, rfl, fun j _ h => by omega, Later.refl _⟩
  case round =>
    obtain ⟨k, hk, rfl, hz, hbw⟩ := hrel
    have HZ := hide hz
    clear hz
    have lw := lb0.trans hbw
    have hTr := hT.later lw
    have kT := block_cell hTr.2.1
    by_cases hlt : k < l.length
    · have hlt' : (k : Int) < l.length := by omega
      go_upto_region 4 with fail
      clear kT
      refine anyT_begin (R := But (fun _ => False)) 11 rfl (by kernel_rfl) ?_
      have ld : Later wr wr.drew := Later.drew wr
      have lwd := lw.trans ld
      have t1 := later_keep (hbw.trans ld) t0
      generalize wr.drew = Wd at *
      obtain ⟨bb, off, cp, e, _, _, hbb, hcs⟩ := (HRD.out.below lwd).cells (by omega)
      simp at e
      obtain ⟨rfl, rfl⟩ := e
      have hwsz := lwd.size
      have hTd := hT.later lwd
      generalize hgo : l[k] = y at *
      have hA : ∀ v1, But (fun _ => False) Wd v1 → ∀ j, v1.cell? ⟨w.heap.size, j, none⟩ = #[Value.int .u8 p, .int .u32 s, .int .u32 d, .int .u16 a, .int .u16 b][j]? := fun v1 hv => block_cell (later_keep hv.laterF t1)
      have hB : ∀ v1, But (fun _ => False) Wd v1 → ∀ j, v1.cell? ⟨bt, j, none⟩ = #[Value.slice (some ⟨bb, off, none⟩) l.length cv, .int .i64 lim, .int .i64 sq][j]? := fun v1 hv => block_cell (later_keep hv.laterF hTd.2.1)
      have hcc : ∀ i, i < 8 → ∀ v1, But (fun _ => False) Wd v1 → v1.cell? ⟨bb, off + k * 8 + i, none⟩ = (rwc y)[i]? := fun i hi v1 hv => (Below.cell (B := Wd.heap.size) hv.laterF (p := ⟨bb, off + k * 8 + i, none⟩) (Nat.lt_of_lt_of_le hbb hwsz)).trans (by have := hcs k hlt i hi; rw [hgo] at this; exact this)
      have c0 := hcc 0 (by omega)
      have c1 := hcc 1 (by omega)
      have c2 := hcc 2 (by omega)
      have c3 := hcc 3 (by omega)
      have c4 := hcc 4 (by omega)
      have HGO := hide hgo
      clear hcc hcs hgo
      simp only [rwc, List.getElem?_cons_zero, List.getElem?_cons_succ, Nat.add_zero] at c0 c1 c2 c3 c4
      refine anyT_val (But.pre _) 0 rfl (by kernel_rfl) (by kernel_rfl) (by kernel_rfl) (fun _ _ _ _ h => h) rfl ?_; apply Exists.intro; refine ⟨fun v1 hv1 => ?_, ?_⟩; (· (go_simp; rfl)); simp only [Act.put, List.setIfInBounds_toArray, List.set_cons_zero, List.set_cons_succ]
      refine anyT_val (But.pre _) 1 rfl (by kernel_rfl) (by kernel_rfl) (by kernel_rfl) (fun _ _ _ _ h => h) rfl ?_; apply Exists.intro; refine ⟨fun v1 hv1 => ?_, ?_⟩; (· (go_simp; rfl)); simp only [Act.put, List.setIfInBounds_toArray, List.set_cons_zero, List.set_cons_succ]
      refine anyT_val (But.pre _) 2 rfl (by kernel_rfl) (by kernel_rfl) (by kernel_rfl) (fun _ _ _ _ h => h) rfl ?_; apply Exists.intro; refine ⟨fun v1 hv1 => ?_, ?_⟩; (· (go_simp; rfl)); simp only [Act.put, List.setIfInBounds_toArray, List.set_cons_zero, List.set_cons_succ]
      refine anyT_val (But.pre _) 3 rfl (by kernel_rfl) (by kernel_rfl) (by kernel_rfl) (fun _ _ _ _ h => h) rfl ?_; apply Exists.intro; refine ⟨fun v1 hv1 => ?_, ?_⟩; (· (go_simp; rfl)); simp only [Act.put, List.setIfInBounds_toArray, List.set_cons_zero, List.set_cons_succ]
      refine anyT_val (But.pre _) 4 rfl (by kernel_rfl) (by kernel_rfl) (by kernel_rfl) (fun _ _ _ _ h => h) rfl ?_; apply Exists.intro; refine ⟨fun v1 hv1 => ?_, ?_⟩; (· (go_simp; rfl)); simp only [Act.put, List.setIfInBounds_toArray, List.set_cons_zero, List.set_cons_succ]
      refine anyT_val (But.pre _) 5 rfl (by kernel_rfl) (by kernel_rfl) (by kernel_rfl) (fun _ _ _ _ h => h) rfl ?_; apply Exists.intro; refine ⟨fun v1 hv1 => ?_, ?_⟩; (· (go_simp; rfl)); simp only [Act.put, List.setIfInBounds_toArray, List.set_cons_zero, List.set_cons_succ]
      refine anyT_val (But.pre _) 6 rfl (by kernel_rfl) (by kernel_rfl) (by kernel_rfl) (fun _ _ _ _ h => h) rfl ?_; apply Exists.intro; refine ⟨fun v1 hv1 => ?_, ?_⟩; (· (go_simp; rfl)); simp only [Act.put, List.setIfInBounds_toArray, List.set_cons_zero, List.set_cons_succ]
      refine anyT_val (But.pre _) 7 rfl (by kernel_rfl) (by kernel_rfl) (by kernel_rfl) (fun _ _ _ _ h => h) rfl ?_; apply Exists.intro; refine ⟨fun v1 hv1 => ?_, ?_⟩; (· (go_simp; rfl)); simp only [Act.put, List.setIfInBounds_toArray, List.set_cons_zero, List.set_cons_succ]
      refine anyT_val (But.pre _) 8 rfl (by kernel_rfl) (by kernel_rfl) (by kernel_rfl) (fun _ _ _ _ h => h) rfl ?_; apply Exists.intro; refine ⟨fun v1 hv1 => ?_, ?_⟩; (· (go_simp; rfl)); simp only [Act.put, List.setIfInBounds_toArray, List.set_cons_zero, List.set_cons_succ]
      clear hA hB c0 c1 c2 c3 c4
      refine anyT_one 9 rfl (by kernel_rfl) rfl ?_
      refine wp_enter 45 #[.agg #[.int .u8 p, .int .u32 s, .int .u32 d, .int .u16 a, .int .u16 b]] (by go_simp) ?_
      refine (rkey_any p s d a b Wd).mono ?_
      rintro e W1 ⟨rfl, hb1⟩
      have k1 : Later Wd W1 := hb1
      refine ⟨But.of k1, ?_⟩
      simp only [Act.put, List.setIfInBounds_toArray, List.set_cons_zero, List.set_cons_succ]
      refine anyT_val (But.pre _) 10 rfl (by kernel_rfl) (by kernel_rfl) (by kernel_rfl) (fun _ _ _ _ h => h) rfl ⟨.bool (isK p s d (kyp p a) b y), fun v1 hv1 => exec_teql _ _ (.tmp 26) (.tmp 28) _ rfl y.p y.s y.d y.a y.b p s d (kyp p a) b rfl rfl v1, ?_⟩
      simp only [Act.put, List.setIfInBounds_toArray, List.set_cons_zero, List.set_cons_succ]
      refine anyT_done (by kernel_rfl) ?_
      have LW1 := lwd.trans k1
      have M1 := hbw.trans (ld.trans k1)
      cases hq : isK p s d (kyp p a) b y with
      | true =>
        have hkx := kix_some hlt HZ.out (by rw [HGO.out]; exact hq)
        have HKX := hide hkx
        clear hkx hq
        go_wp2_with fail
        go_ret
        exact ⟨by rw [HKX.out]; rfl, LW1⟩
      | false =>
        have HQ := hide hq
        clear hq
        go_wp2_with fail
        go_roundw
        case rel => exact ⟨k + 1, by omega, by go_num, fun j hj hjk => by by_cases h : j = k; (subst h; rw [HGO.out]; exact HQ.out); exact HZ.out j hj (by omega), M1⟩
        case measure => simp [intOf]; omega
    · obtain rfl : k = l.length := by omega
      have hkx := kix_none (fun j hj => HZ.out j hj hj)
      have HKX := hide hkx
      clear hkx
      go_wp2_with fail
      go_ret
      exact ⟨by rw [HKX.out]; rfl, lw⟩
end Go.Proofs.Ytahphjindjlcpaa

/- Regions that draw their order, with guards: an operation that only reckons is taken first, one that is alone is taken in its world. -/
namespace Go.Proofs.Ytahphjindjlcpaa
open Go.RowKit Go.Shelf
set_option maxRecDepth 100000
set_option linter.unusedVariables false

section
variable {P : Program} {ops : Array Oper} {Q : Exit → Act → World → Prop} {md : Region.Mode} {R : World → World → Prop}
def GivesG (P : Program) (ops : Array Oper) (R : World → World → Prop) (o : Oper) (v : Value) (a : Act) (w : World) : Prop :=
  Region.wanted o (yielded ops a.tmps) = true ∧ ∀ w', R w w' → (execOp a.eval o).run P w' = .ok (.value v) w'
theorem GivesG.of_same {o : Oper} {v : Value} {a a' : Act} {w : World} (hy : GivesG P ops R o v a w) (he : execOp a'.eval o = execOp a.eval o)
    (hw : Region.wanted o (yielded ops a'.tmps) = Region.wanted o (yielded ops a.tmps)) : GivesG P ops R o v a' w := by
  unfold GivesG at *
  rw [he, hw]
  exact hy
theorem GivesG.up {o : Oper} {v : Value} {a : Act} {w w' : World} (ht : ∀ a b c, R a b → R b c → R a c) (hy : GivesG P ops R o v a w) (h : R w w') : GivesG P ops R o v a w' := ⟨hy.1, fun w'' h' => hy.2 w'' (ht _ _ _ h h')⟩

theorem wpOp_putG {j : Nat} {oi oj : Oper} {v : Value} (hj : ops[j]? = some oj) (hap : oi.apart ops oj = true)
    (hsi : ∀ cs b, oi.op ≠ .select cs b) (hsj : ∀ cs b, oj.op ≠ .select cs b)
    (hQ : ∀ c a w, Q (.panic c) (a.put oi.dst v) w → Q (.panic c) a w) {K : Act → World → Prop} {a : Act} {w w₀ : World}
    (hy : GivesG P ops R oi v a w₀) (h : wpOp P ops Q j K (a.put oi.dst v) w) :
    wpOp P ops Q j (fun a' w' => GivesG P ops R oi v a' w₀ ∧ K (a'.put oi.dst v) w') a w := by
  obtain ⟨h1, h2, h3⟩ := Oper.apart_spec hap
  have keep : ∀ (a : Act), GivesG P ops R oi v a w₀ → ∀ u, GivesG P ops R oi v (a.put oj.dst u) w₀ := fun a hy u =>
    hy.of_same (execOp_put oi hsi a oj.dst u h3) (wanted_put oi a oj.dst u h3)
  have keepD : ∀ d, GivesG P ops R oi v { a with defers := d :: a.defers } w₀ := fun d => hy.of_same rfl rfl
  unfold wpOp at *
  simp only [hj] at *
  rw [wanted_put oj a oi.dst v h1] at h
  split
  · rename_i hw
    simp only [hw, if_true] at h
    rcases h with h | ⟨hasks, hlets⟩
    case inr => exact .inr ⟨by unfold Oper.asks at *; rw [execOp_put oj hsj a oi.dst v h1] at hasks; exact hasks, hlets⟩
    refine .inl ?_
    unfold Oper.wp at *
    rw [execOp_put oj hsj a oi.dst v h1] at h
    generalize (execOp a.eval oj).run P w = r at *
    cases r with
    | ok n w' =>
      cases n <;> simp only [Oper.upon] at h ⊢
      case value u => exact ⟨keep a hy u, by rw [← Act.put_comm a v u h2]; exact h⟩
      case skip => exact ⟨keep a hy _, by rw [← Act.put_comm a v undef h2]; exact h⟩
      case defer d =>
        refine ⟨keep _ (keepD d) _, ?_⟩
        rw [← Act.put_comm _ v undef h2, ← Act.put_defers]
        exact h
      case enter f args =>
        refine Calls.mono h fun e w'' he => ?_
        cases e with
        | returned u => exact ⟨keep a hy u, by rw [← Act.put_comm a v u h2]; exact he⟩
        | panicked c => exact hQ _ _ _ he
        | outgrown => exact he
      case row row args => exact Rows.mono h fun u w'' he => ⟨keep a hy u, by rw [← Act.put_comm a v u h2]; exact he⟩
    | halt x w' =>
      cases x <;> simp only [Oper.upon] at h ⊢
      case panic u => exact hQ _ _ _ h
  · rename_i hw
    simp only [hw] at h
    exact ⟨keep a hy _, by rw [← Act.put_comm a v undef h2]; exact h⟩

theorem GivesG.wpOp {i : Nat} {o : Oper} {v : Value} {a : Act} {w : World} (hr : ∀ a, R a a) (hi : ops[i]? = some o) (hy : GivesG P ops R o v a w)
    {K : Act → World → Prop} (h : K (a.put o.dst v) w) : Go.wpOp P ops Q i K a w := by
  unfold Go.wpOp
  simp only [hi, hy.1, if_true]
  refine .inl ?_
  unfold Oper.wp
  rw [hy.2 w (hr w)]
  exact h

theorem wpAnyG_first (hre : ∀ a, R a a) (ht : ∀ a b c, R a b → R b c → R a c) {i : Nat} {oi : Oper} {v : Value} (hi : ops[i]? = some oi) (hsel : ∀ (j : Nat) (o : Oper) cs b, ops[j]? = some o → o.op ≠ .select cs b)
    (hQ : ∀ c a w, Q (.panic c) (a.put oi.dst v) w → Q (.panic c) a w) :
    ∀ (fuel : Nat) (listed : Array Bool) (a : Act) (w : World),
      (∀ j oj, ops[j]? = some oj → j ≠ i → listed.getD j true = false → (∀ e ∈ oj.after, Region.binds md e = true → e.on ≠ i) → oi.apart ops oj = true) →
      i ∈ Region.ready md ops listed → GivesG P ops R oi v a w →
      wpAnyT P md ops Q R fuel (listed.setIfInBounds i true) (a.put oi.dst v) w → wpAnyT P md ops Q R (fuel + 1) listed a w := by
  intro fuel
  induction fuel with
  | zero =>
    intro listed a w _ hr hy H
    refine ⟨fun h => (by rw [h] at hr; cases hr), fun j hj => ?_⟩
    by_cases hji : j = i
    · subst hji; exact hy.wpOp hre hi ⟨hre _, H⟩
    · have := ready_mono hj hji
      rw [H.1] at this
      cases this
  | succ fuel ih =>
    intro listed a w hfree hr hy H
    refine ⟨fun h => (by rw [h] at hr; cases hr), fun j hj => ?_⟩
    by_cases hji : j = i
    · subst hji; exact hy.wpOp hre hi ⟨hre _, H⟩
    · have h1 := H.2 j (ready_mono hj hji)
      obtain ⟨hjun, oj, hoj, hall⟩ := mem_ready.1 hj
      have hnot : ∀ e ∈ oj.after, Region.binds md e = true → e.on ≠ i := fun e he hb heq => by
        have h1 := hall e he hb
        have h0 := (mem_ready.1 hr).1
        rw [heq] at h1
        rcases Nat.lt_or_ge i listed.size with h' | h'
        · simp [h'] at h0 h1; rw [h0] at h1; cases h1
        · simp [Array.getElem?_eq_none h'] at h1
      have h2 := wpOp_putG hoj (hfree j oj hoj hji hjun hnot) (fun cs b => hsel i oi cs b hi) (fun cs b => hsel j oj cs b hoj) hQ hy h1
      have hfree' : ∀ k ok, ops[k]? = some ok → k ≠ i → (listed.setIfInBounds j true).getD k true = false →
          (∀ e ∈ ok.after, Region.binds md e = true → e.on ≠ i) → oi.apart ops ok = true := fun k ok hk hki hun hno => by
        refine hfree k ok hk hki ?_ hno
        by_cases hjk : j = k
        · subst hjk; exact hjun
        · rw [getD_set_ne true hjk] at hun; exact hun
      refine wpOp_mono (fun a' w'' h3 => ⟨h3.2.1, ih (listed.setIfInBounds j true) a' w'' hfree' (ready_mono hr (Ne.symm hji)) (h3.1.up ht h3.2.1) ?_⟩) h2
      rw [Array.setIfInBounds_comm _ _ hji]
      exact h3.2.2
end

section
variable {P : Program} {l : List Oper} {Q : Exit → Act → World → Prop} {fuel : Nat} {listed : Array Bool} {a : Act} {w : World} {R : World → World → Prop}
theorem anyT_valG (hp : Pre R) (i : Nat) {oi : Oper} (hi : nthOp l i = some oi)
    (hs : Region.noSelect l.toArray = true) (hf : Region.free .any l.toArray listed i = true) (hr : (Region.ready .any l.toArray listed).contains i = true)
    (hQ : ∀ v c a w, Q (.panic c) (a.put oi.dst v) w → Q (.panic c) a w) (hg : Region.wanted oi (yielded l.toArray a.tmps) = true)
    (h : ∃ v, (∀ w', R w w' → (execOp a.eval oi).run P w' = .ok (.value v) w') ∧ wpAnyT P .any l.toArray Q R fuel (listed.setIfInBounds i true) (a.put oi.dst v) w) : wpAnyT P .any l.toArray Q R (fuel + 1) listed a w := by
  obtain ⟨v, h1, h2⟩ := h
  have hi' : l.toArray[i]? = some oi := by rw [← hi, nthOp_eq]; simp
  exact wpAnyG_first hp.1 hp.2 hi' (Region.noSelect_spec hs) (hQ v) fuel listed a w (Region.free_spec hi' hf) (by simpa using hr) ⟨hg, h1⟩ h2
theorem anyT_oneG (i : Nat) {oi : Oper} (hi : nthOp l i = some oi) (hr : Region.ready .any l.toArray listed = [i]) (hg : Region.wanted oi (yielded l.toArray a.tmps) = true)
    (h1 : oi.wp P a w (fun a' w'' => R w w'' ∧ wpAnyT P .any l.toArray Q R fuel (listed.setIfInBounds i true) a' w'') Q) :
    wpAnyT P .any l.toArray Q R (fuel + 1) listed a w := by
  have hi' : l.toArray[i]? = some oi := by rw [← hi, nthOp_eq]; simp
  refine ⟨fun h0 => (by rw [hr] at h0; cases h0), fun k hk => ?_⟩
  rw [hr] at hk
  unfold wpOp
  obtain rfl : k = i := by simpa using hk
  rw [hi']; simp only [hg, if_true]; exact .inl h1
end
end Go.Proofs.Ytahphjindjlcpaa

/- Regions that draw their order: some operations (those of D) may turn more than the others; what is read ahead of them is taken first. -/
namespace Go.Proofs.Ytahphjindjlcpaa
open Go.RowKit Go.Shelf
set_option maxRecDepth 100000
set_option linter.unusedVariables false

def Rj (R1 R2 : World → World → Prop) (D : List Nat) (j : Nat) : World → World → Prop := if D.contains j = true then R2 else R1
theorem Rj_in {R1 R2 : World → World → Prop} {D : List Nat} {j : Nat} (h : D.contains j = true) {w w' : World} (k : R2 w w') : Rj R1 R2 D j w w' := by unfold Rj; rw [if_pos h]; exact k
theorem Rj_out {R1 R2 : World → World → Prop} {D : List Nat} {j : Nat} (h : D.contains j = false) {w w' : World} (k : R1 w w') : Rj R1 R2 D j w w' := by unfold Rj; rw [if_neg (by rw [h]; simp)]; exact k

section
variable {P : Program} {ops : Array Oper} {Q : Exit → Act → World → Prop} {md : Region.Mode} {R1 R2 S : World → World → Prop} {D : List Nat}
def wpAnyU (P : Program) (md : Region.Mode) (ops : Array Oper) (Q : Exit → Act → World → Prop) (R1 R2 : World → World → Prop) (D : List Nat) : Nat → Array Bool → Act → World → Prop
  | 0, listed, a, w => Region.ready md ops listed = [] ∧ Q .normal a w
  | fuel + 1, listed, a, w =>
    (Region.ready md ops listed = [] → Q .normal a w) ∧
    ∀ i ∈ Region.ready md ops listed, wpOp P ops Q i (fun a' w'' => Rj R1 R2 D i w w'' ∧ wpAnyU P md ops Q R1 R2 D fuel (listed.setIfInBounds i true) a' w'') a w

theorem wpAny_of_U : ∀ (fuel : Nat) (listed : Array Bool) (a : Act) (w : World), wpAnyU P md ops Q R1 R2 D fuel listed a w → wpAny P md ops Q fuel listed a w
  | 0, _, _, _, h => h
  | fuel + 1, _, _, _, h => ⟨h.1, fun i hi => wpOp_mono (fun a' w' h' => wpAny_of_U fuel _ a' w' h'.2) (h.2 i hi)⟩

theorem wpAnyU_first (hre : ∀ a, S a a) (ht : ∀ a b c, S a b → S b c → S a c) {i : Nat} {oi : Oper} {v : Value} (hi : ops[i]? = some oi) (hself : ∀ w, Rj R1 R2 D i w w) (hsel : ∀ (j : Nat) (o : Oper) cs b, ops[j]? = some o → o.op ≠ .select cs b)
    (hQ : ∀ c a w, Q (.panic c) (a.put oi.dst v) w → Q (.panic c) a w) (Inv : Array Bool → Prop)
    (hInv : ∀ listed, Inv listed → listed.getD i true = false → ∀ j ∈ Region.ready md ops listed, j ≠ i → (∀ w w', Rj R1 R2 D j w w' → S w w') ∧ Inv (listed.setIfInBounds j true)) :
    ∀ (fuel : Nat) (listed : Array Bool) (a : Act) (w : World), Inv listed →
      (∀ j oj, ops[j]? = some oj → j ≠ i → listed.getD j true = false → (∀ e ∈ oj.after, Region.binds md e = true → e.on ≠ i) → oi.apart ops oj = true) →
      i ∈ Region.ready md ops listed → GivesG P ops S oi v a w →
      wpAnyU P md ops Q R1 R2 D fuel (listed.setIfInBounds i true) (a.put oi.dst v) w → wpAnyU P md ops Q R1 R2 D (fuel + 1) listed a w := by
  intro fuel
  induction fuel with
  | zero =>
    intro listed a w _ _ hr hy H
    refine ⟨fun h => (by rw [h] at hr; cases hr), fun j hj => ?_⟩
    by_cases hji : j = i
    · subst hji; exact hy.wpOp hre hi ⟨hself _, H⟩
    · have := ready_mono hj hji
      rw [H.1] at this
      cases this
  | succ fuel ih =>
    intro listed a w hinv hfree hr hy H
    refine ⟨fun h => (by rw [h] at hr; cases hr), fun j hj => ?_⟩
    by_cases hji : j = i
    · subst hji; exact hy.wpOp hre hi ⟨hself _, H⟩
    · have h1 := H.2 j (ready_mono hj hji)
      obtain ⟨hjun, oj, hoj, hall⟩ := mem_ready.1 hj
      have hnot : ∀ e ∈ oj.after, Region.binds md e = true → e.on ≠ i := fun e he hb heq => by
        have h1 := hall e he hb
        have h0 := (mem_ready.1 hr).1
        rw [heq] at h1
        rcases Nat.lt_or_ge i listed.size with h' | h'
        · simp [h'] at h0 h1; rw [h0] at h1; cases h1
        · simp [Array.getElem?_eq_none h'] at h1
      have h2 := wpOp_putG hoj (hfree j oj hoj hji hjun hnot) (fun cs b => hsel i oi cs b hi) (fun cs b => hsel j oj cs b hoj) hQ hy h1
      have hfree' : ∀ k ok, ops[k]? = some ok → k ≠ i → (listed.setIfInBounds j true).getD k true = false →
          (∀ e ∈ ok.after, Region.binds md e = true → e.on ≠ i) → oi.apart ops ok = true := fun k ok hk hki hun hno => by
        refine hfree k ok hk hki ?_ hno
        by_cases hjk : j = k
        · subst hjk; exact hjun
        · rw [getD_set_ne true hjk] at hun; exact hun
      obtain ⟨hs, hinv'⟩ := hInv listed hinv (mem_ready.1 hr).1 j hj hji
      refine wpOp_mono (fun a' w'' h3 => ⟨h3.2.1, ih (listed.setIfInBounds j true) a' w'' hinv' hfree' (ready_mono hr (Ne.symm hji)) (h3.1.up ht (hs _ _ h3.2.1)) ?_⟩) h2
      rw [Array.setIfInBounds_comm _ _ hji]
      exact h3.2.2
/-- None of D can be taken as long as i is not. -/
def blocks (md : Region.Mode) (ops : Array Oper) (D : List Nat) (i : Nat) : Bool := D.all fun d => match ops[d]? with
  | some o => o.after.any fun e => Region.binds md e && (e.on == i || D.contains e.on)
  | none => false
theorem blocks_spec {i : Nat} (h : blocks md ops D i = true) {listed : Array Bool} (hi : listed.getD i true = false) (hD : ∀ d ∈ D, listed.getD d true = false) {j : Nat} (hj : j ∈ Region.ready md ops listed) : j ∉ D := fun hjD => by
  obtain ⟨_, o, ho, hall⟩ := mem_ready.1 hj
  unfold blocks at h
  rw [List.all_eq_true] at h
  have h1 := h j hjD
  rw [ho] at h1
  simp only [Array.any_eq_true] at h1
  obtain ⟨k, hk, he⟩ := h1
  simp only [Bool.and_eq_true, Bool.or_eq_true, beq_iff_eq] at he
  have hl := hall o.after[k] (Array.getElem_mem hk) he.1
  have no : ∀ x, listed.getD x true = false → listed.getD x false = true → False := fun x h0 h1 => by
    rcases Nat.lt_or_ge x listed.size with h' | h'
    · simp [h'] at h0 h1; rw [h0] at h1; cases h1
    · simp [Array.getElem?_eq_none h'] at h1
  rcases he.2 with e | e
  · rw [e] at hl
    exact no i hi hl
  · exact no _ (hD _ (by simpa using e)) hl
end

section
variable {P : Program} {l : List Oper} {Q : Exit → Act → World → Prop} {fuel : Nat} {listed : Array Bool} {a : Act} {w : World} {R1 R2 S : World → World → Prop} {D : List Nat}
/-- What is read ahead of those of D: none of B, among which they are, can be taken as long as it is not. -/
theorem anyU_val (hp : Pre R1) (i : Nat) (B : List Nat) {oi : Oper} (hi : nthOp l i = some oi) (hiD : D.contains i = false) (hsub : D.all (fun d => B.contains d) = true) (hbl : blocks .any l.toArray B i = true) (hun : B.all (fun d => !(listed.getD d true)) = true)
    (hs : Region.noSelect l.toArray = true) (hf : Region.free .any l.toArray listed i = true) (hr : (Region.ready .any l.toArray listed).contains i = true)
    (hQ : ∀ v c a w, Q (.panic c) (a.put oi.dst v) w → Q (.panic c) a w) (hg : Region.wanted oi (yielded l.toArray a.tmps) = true)
    (h : ∃ v, (∀ w', R1 w w' → (execOp a.eval oi).run P w' = .ok (.value v) w') ∧ wpAnyU P .any l.toArray Q R1 R2 D fuel (listed.setIfInBounds i true) (a.put oi.dst v) w) : wpAnyU P .any l.toArray Q R1 R2 D (fuel + 1) listed a w := by
  obtain ⟨v, h1, h2⟩ := h
  have hi' : l.toArray[i]? = some oi := by rw [← hi, nthOp_eq]; simp
  have hunp : ∀ d ∈ B, listed.getD d true = false := fun d hd => by
    have := List.all_eq_true.1 hun d hd
    simpa using this
  refine wpAnyU_first (S := R1) hp.1 hp.2 hi' (fun w => Rj_out hiD (hp.1 w)) (Region.noSelect_spec hs) (hQ v) (fun listed => ∀ d ∈ B, listed.getD d true = false) ?_ fuel listed a w hunp (Region.free_spec hi' hf) (by simpa using hr) ⟨hg, h1⟩ h2
  intro listed' hinv hiu j hj hji
  have hjB := blocks_spec hbl hiu hinv hj
  have hjD : j ∉ D := fun hd => hjB (by simpa using List.all_eq_true.1 hsub j hd)
  have hjc : D.contains j = false := by cases hc : D.contains j with | false => rfl | true => exact absurd (by simpa using hc) hjD
  refine ⟨fun w w' hR => by unfold Rj at hR; rw [if_neg (by rw [hjc]; simp)] at hR; exact hR, fun d hd => ?_⟩
  by_cases hdj : j = d
  · subst hdj; exact absurd hd hjB
  · rw [getD_set_ne true hdj]; exact hinv d hd
/-- What hangs on no memory. -/
theorem anyU_pure (h1r : ∀ w, R1 w w) (h2r : ∀ w, R2 w w) (i : Nat) {oi : Oper} (hi : nthOp l i = some oi)
    (hs : Region.noSelect l.toArray = true) (hf : Region.free .any l.toArray listed i = true) (hr : (Region.ready .any l.toArray listed).contains i = true)
    (hQ : ∀ v c a w, Q (.panic c) (a.put oi.dst v) w → Q (.panic c) a w) (hg : Region.wanted oi (yielded l.toArray a.tmps) = true)
    (h : ∃ v, (∀ w', (execOp a.eval oi).run P w' = .ok (.value v) w') ∧ wpAnyU P .any l.toArray Q R1 R2 D fuel (listed.setIfInBounds i true) (a.put oi.dst v) w) : wpAnyU P .any l.toArray Q R1 R2 D (fuel + 1) listed a w := by
  obtain ⟨v, h1, h2⟩ := h
  have hi' : l.toArray[i]? = some oi := by rw [← hi, nthOp_eq]; simp
  exact wpAnyU_first (S := fun _ _ => True) (fun _ => trivial) (fun _ _ _ _ _ => trivial) hi' (fun w => by unfold Rj; split; (· exact h2r w); (· exact h1r w)) (Region.noSelect_spec hs) (hQ v) (fun _ => True) (fun _ _ _ _ _ _ => ⟨fun _ _ _ => trivial, trivial⟩) fuel listed a w trivial (Region.free_spec hi' hf) (by simpa using hr) ⟨hg, fun w' _ => h1 w'⟩ h2
theorem anyU_begin {id : Nat} (n : Nat) (hn : l.length = n) (hm : P.follows .mixedOrders = true)
    (h : wpAnyU P .any l.toArray Q R1 R2 D n (Array.replicate n false) a w.drew) : (Code.region id l.toArray true).wp P Q a w := by
  subst hn
  refine wp_region_any hm (wpAny_of_U (R1 := R1) (R2 := R2) (D := D) _ _ _ _ ?_)
  simpa using h
theorem anyU_done (hr : Region.ready .any l.toArray listed = []) (h : Q .normal a w) : wpAnyU P .any l.toArray Q R1 R2 D fuel listed a w := by
  cases fuel with
  | zero => exact ⟨hr, h⟩
  | succ n => exact ⟨fun _ => h, by rw [hr]; simp⟩
theorem anyU_one (i : Nat) {oi : Oper} (hi : nthOp l i = some oi) (hr : Region.ready .any l.toArray listed = [i]) (hg : Region.wanted oi (yielded l.toArray a.tmps) = true)
    (h1 : oi.wp P a w (fun a' w'' => Rj R1 R2 D i w w'' ∧ wpAnyU P .any l.toArray Q R1 R2 D fuel (listed.setIfInBounds i true) a' w'') Q) :
    wpAnyU P .any l.toArray Q R1 R2 D (fuel + 1) listed a w := by
  have hi' : l.toArray[i]? = some oi := by rw [← hi, nthOp_eq]; simp
  refine ⟨fun h0 => (by rw [hr] at h0; cases h0), fun k hk => ?_⟩
  rw [hr] at hk
  unfold wpOp
  obtain rfl : k = i := by simpa using hk
  rw [hi']; simp only [hg, if_true]; exact .inl h1
end
end Go.Proofs.Ytahphjindjlcpaa

/- The document's Put. -/
namespace Go.Proofs.Ytahphjindjlcpaa
open Go.RowKit Go.Shelf
set_option maxRecDepth 100000
set_option linter.unusedVariables false
set_option linter.unusedSimpArgs false

theorem info_drow : (Try.prog.info? 86).map (fun i => (i.zero, i.size, i.bytes)) = some (some (.agg #[.int .u8 0, .int .u32 0, .int .u32 0, .int .u16 0, .int .u16 0, .int .i64 0, .int .i64 0, .int .i64 0]), 8, 40) := by kernel_rfl

theorem new_drow (W : World) (x : Rw) : ∀ j u, (rwc x)[j]? = some u → (W.alloc (.cells (rwc x).toArray 86)).cell? ((⟨W.heap.size, 0, none⟩ : Addr).add j) = some u := fun j u hj => by
  rw [show (⟨W.heap.size, 0, none⟩ : Addr).add j = ⟨W.heap.size, j, none⟩ from by unfold Addr.add; split <;> simp_all, block_cell (heap_alloc_new W _) j]
  simpa using hj
/-- What the document's Put answers. -/
def rpe (lim : Int) (l : List Rw) (p s d a b till : Int) : Int := if mayb till = false then 2 else if kix p s d (kyp p a) b l ≠ none then 10 else if lim ≤ l.length then 9 else 0
/-- How a change of the document's table leaves it. -/
def DTq (base : Nat) (w w' : World) (b : Nat) (v : Value) (lim sq : Int) (l : List Rw) : Prop := ∃ v', DT base w' b v' lim sq l ∧ But (fun g => g = b ∨ v.ownBlock = some g) w w' ∧ (v'.ownBlock = v.ownBlock ∨ ∀ g, v'.ownBlock = some g → w.heap.size ≤ g)
theorem DTq.same {base : Nat} {w w' : World} {b : Nat} {v : Value} {lim sq : Int} {l : List Rw} (h : DT base w b v lim sq l) (k : Later w w') : DTq base w w' b v lim sq l := ⟨v, h.later k, But.of k, .inl rfl⟩

set_option maxHeartbeats 8000000 in
theorem rput_any (base bt : Nat) (v : Value) (lim sq : Int) (l : List Rw) (p s d a b id till : Int) (w : World) (hT : DT base w bt v lim sq l) (hl : l.length ≤ 5000) (hsq : 0 ≤ sq ∧ sq ≤ 1000000) (hbs : base ≤ w.heap.size) :
    Calls Try.prog 28 #[.pointer (some ⟨bt, 0, none⟩), .agg #[.int .u8 p, .int .u32 s, .int .u32 d, .int .u16 a, .int .u16 b], .int .i64 id, .int .i64 till] w fun e w' => e = .returned (.int .i64 (rpe lim l p s d a b till)) ∧
      ((rpe lim l p s d a b till ≠ 0 ∧ DTq base w w' bt v lim sq l) ∨ (rpe lim l p s d a b till = 0 ∧ DTq base w w' bt v lim (sq + 1) (l ++ [⟨p, s, d, kyp p a, b, id, till, sq + 1⟩]))) := by
  obtain ⟨i0, hi0, hz0, hz1, hz2⟩ := info_parts info_drow
  have lb0 : Later w (w.alloc (.cells #[.int .u8 p, .int .u32 s, .int .u32 d, .int .u16 a, .int .u16 b] 26)) := (Below.refl _ _).alloc (Nat.le_refl _) _
  have t0 := heap_alloc_new w (.cells #[.int .u8 p, .int .u32 s, .int .u32 d, .int .u16 a, .int .u16 b] 26)
  obtain ⟨av, cv, rfl, hcv1, hcv2⟩ := (ownD_rd hT.2.2).slice
  have HAT := hide (fun W (hW : Later w W) => at_any base bt _ lim sq l p s d a b W (hT.later hW))
  go_enter Try.func28, Try.ntmps28
  cases hmb : mayb till with
  | false =>
    have hpe : rpe lim l p s d a b till = 2 := by unfold rpe; rw [if_pos hmb]
    have HPE := hide hpe
    have hmb' : till < 0 ∨ 1099511627776 < till := by unfold mayb at hmb; simp at hmb; omega
    clear hpe hmb
    by_cases h0 : till < 0
    · clear hmb'
      go_wp2_with fail
      go_ret
      exact ⟨by rw [HPE.out]; rfl, .inl ⟨by rw [HPE.out]; omega, DTq.same hT lb0⟩⟩
    · have h1 : 1099511627776 < till := by omega
      clear hmb'
      go_wp2_with fail
      go_ret
      exact ⟨by rw [HPE.out]; rfl, .inl ⟨by rw [HPE.out]; omega, DTq.same hT lb0⟩⟩
  | true =>
    have hmb' : 0 ≤ till ∧ till ≤ 1099511627776 := by unfold mayb at hmb; simpa using hmb
    have h0 : ¬ till < 0 := by omega
    have h1 : ¬ 1099511627776 < till := by omega
    have HMB := hide hmb
    have k0 := block_cell t0
    clear hmb hmb'
    go_wp2_with fail
    generalize w.alloc _ = w0 at *
    refine (HAT.out w0 lb0).mono ?_
    rintro e w1 ⟨rfl, l1⟩
    have L1 := lb0.trans l1
    clear k0
    cases hkx : kix p s d (kyp p a) b l with
    | some k =>
      have hpe : rpe lim l p s d a b till = 10 := by unfold rpe; rw [HMB.out, hkx]; simp
      have HPE := hide hpe
      clear hpe hkx
      rw [rix_some]
      have hk0 : (0 : Int) ≤ (k : Int) := by omega
      go_wp2_with fail
      go_ret
      exact ⟨by rw [HPE.out]; rfl, .inl ⟨by rw [HPE.out]; omega, DTq.same hT L1⟩⟩
    | none =>
      have HKX := hide hkx
      clear hkx
      rw [rix_none]
      have hT1 := hT.later L1
      have kT := block_cell hT1.2.1
      have t1 := later_keep l1 t0
      go_upto_region 7 with fail
      by_cases hfull : lim ≤ l.length
      · have hpe : rpe lim l p s d a b till = 9 := by unfold rpe; rw [HMB.out, HKX.out, if_neg (by simp), if_neg (by simp), if_pos hfull]
        have HPE := hide hpe
        clear hpe
        go_quiet (fail)
        go_wp2_with fail
        go_ret
        exact ⟨by rw [HPE.out]; rfl, .inl ⟨by rw [HPE.out]; omega, DTq.same hT (L1.trans (below_draw (Later.refl _) _))⟩⟩
      · have hpe : rpe lim l p s d a b till = 0 := by unfold rpe; rw [HMB.out, HKX.out, if_neg (by simp), if_neg (by simp), if_neg hfull]
        have HPE := hide hpe
        clear hpe
        go_quiet (fail)
        have lq : Later w1 (w1.drewN nq) := below_draw (Later.refl _) _
        have L2 := L1.trans lq
        have t2 := later_keep lq t1
        clear kT
        generalize w1.drewN nq = w2 at *
        have hT2 := hT.later L2
        have kT := block_cell hT2.2.1
        have fT := block_frozen hT2.2.1
        have c1 : sq + 1 ≤ 9223372036854775807 := by omega
        go_upto_region 10 with fail
        have hV3 := heap_set1 hT2.2.1 2 (.int .i64 (sq + 1))
        have hbV1 : But (fun g => g = bt) w2 (w2.setCell ⟨bt, 2, none⟩ (.int .i64 (sq + 1))) := (But.refl (fun g => g = bt) _).setCell (p := ⟨bt, 2, none⟩) rfl _
        generalize w2.setCell ⟨bt, 2, none⟩ (.int .i64 (sq + 1)) = w3 at *
        clear kT fT
        have hgb : ∀ g, Value.ownBlock (.slice av l.length cv) = some g → g ≠ bt := fun g hg e => hT.ne hT.2.1 (by decide) (by rw [← e]; exact hg)
        have hT3 : DT base w3 bt (.slice av l.length cv) lim (sq + 1) l := by
          refine ⟨hT.1, hV3, ?_⟩
          obtain ⟨q1, q2 | ⟨g, cap, cur, e, q2, q3, q4⟩⟩ := hT2.2.2
          · exact ⟨q1, .inl q2⟩
          · exact ⟨q1, .inr ⟨g, cap, cur, e, q2, (hbV1.block g (Array.getElem?_eq_some_iff.1 q3).1 (hgb g (by rw [e]; rfl))).trans q3, q4⟩⟩
        have hxb : w.heap.size ≠ bt := fun e => by have := hT.blt; omega
        have t3 := (hbV1.block w.heap.size (Array.getElem?_eq_some_iff.1 t2).1 hxb).trans t2
        have B3 : But (fun g => g = bt ∨ Value.ownBlock (.slice av l.length cv) = some g) w w3 := (But.of L2).trans ⟨hbV1.os, hbV1.tape, hbV1.output, hbV1.size, fun k hk he => hbV1.block k hk (fun e => he (.inl e))⟩
        refine anyU_begin (R1 := Later) (R2 := But (fun g => g = bt ∨ Value.ownBlock (.slice av l.length cv) = some g)) (D := [15, 18]) 19 rfl (by kernel_rfl) ?_
        have ld : Later w3 w3.drew := Later.drew w3
        have td := later_keep ld t3
        have hTd := hT3.later ld
        have B4 := B3.trans (But.of ld)
        generalize w3.drew = Wd at *
        have hA : ∀ v1, Later Wd v1 → ∀ j, v1.cell? ⟨w.heap.size, j, none⟩ = #[Value.int .u8 p, .int .u32 s, .int .u32 d, .int .u16 a, .int .u16 b][j]? := fun v1 hv => block_cell (later_keep hv td)
        have hB : ∀ v1, Later Wd v1 → ∀ j, v1.cell? ⟨bt, j, none⟩ = #[Value.slice av l.length cv, .int .i64 lim, .int .i64 (sq + 1)][j]? := fun v1 hv => block_cell (later_keep hv hTd.2.1)
        refine anyU_pure Later.refl (But.refl _) 0 rfl (by kernel_rfl) (by kernel_rfl) (by kernel_rfl) (fun _ _ _ _ h => h) (by rfl) ?_; apply Exists.intro; refine ⟨fun v1 => ?_, ?_⟩; (· (go_simp; rfl)); simp only [Act.put, List.setIfInBounds_toArray, List.set_cons_zero, List.set_cons_succ]
        refine anyU_pure Later.refl (But.refl _) 1 rfl (by kernel_rfl) (by kernel_rfl) (by kernel_rfl) (fun _ _ _ _ h => h) (by rfl) ?_; apply Exists.intro; refine ⟨fun v1 => ?_, ?_⟩; (· (go_simp; rfl)); simp only [Act.put, List.setIfInBounds_toArray, List.set_cons_zero, List.set_cons_succ]
        refine anyU_pure Later.refl (But.refl _) 2 rfl (by kernel_rfl) (by kernel_rfl) (by kernel_rfl) (fun _ _ _ _ h => h) (by rfl) ?_; apply Exists.intro; refine ⟨fun v1 => ?_, ?_⟩; (· (go_simp; rfl)); simp only [Act.put, List.setIfInBounds_toArray, List.set_cons_zero, List.set_cons_succ]
        refine anyU_pure Later.refl (But.refl _) 3 rfl (by kernel_rfl) (by kernel_rfl) (by kernel_rfl) (fun _ _ _ _ h => h) (by rfl) ?_; apply Exists.intro; refine ⟨fun v1 => ?_, ?_⟩; (· (go_simp; rfl)); simp only [Act.put, List.setIfInBounds_toArray, List.set_cons_zero, List.set_cons_succ]
        refine anyU_val Later.pre 4 [15, 18] rfl (by rfl) (by rfl) (by kernel_rfl) (by kernel_rfl) (by kernel_rfl) (by kernel_rfl) (by kernel_rfl) (fun _ _ _ _ h => h) (by rfl) ?_; apply Exists.intro; refine ⟨fun v1 hv1 => ?_, ?_⟩; (· (go_simp; rfl)); simp only [Act.put, List.setIfInBounds_toArray, List.set_cons_zero, List.set_cons_succ]
        refine anyU_val Later.pre 5 [6, 13, 14, 15, 18] rfl (by rfl) (by rfl) (by kernel_rfl) (by kernel_rfl) (by kernel_rfl) (by kernel_rfl) (by kernel_rfl) (fun _ _ _ _ h => h) (by rfl) ?_; apply Exists.intro; refine ⟨fun v1 hv1 => ?_, ?_⟩; (· (go_simp; rfl)); simp only [Act.put, List.setIfInBounds_toArray, List.set_cons_zero, List.set_cons_succ]
        refine anyU_pure Later.refl (But.refl _) 7 rfl (by kernel_rfl) (by kernel_rfl) (by kernel_rfl) (fun _ _ _ _ h => h) (by rfl) ?_; apply Exists.intro; refine ⟨fun v1 => ?_, ?_⟩; (· (go_simp; rfl)); simp only [Act.put, List.setIfInBounds_toArray, List.set_cons_zero, List.set_cons_succ]
        refine anyU_pure Later.refl (But.refl _) 8 rfl (by kernel_rfl) (by kernel_rfl) (by kernel_rfl) (fun _ _ _ _ h => h) (by rfl) ?_; apply Exists.intro; refine ⟨fun v1 => ?_, ?_⟩; (· (go_simp; rfl)); simp only [Act.put, List.setIfInBounds_toArray, List.set_cons_zero, List.set_cons_succ]
        refine anyU_pure Later.refl (But.refl _) 9 rfl (by kernel_rfl) (by kernel_rfl) (by kernel_rfl) (fun _ _ _ _ h => h) (by rfl) ?_; apply Exists.intro; refine ⟨fun v1 => ?_, ?_⟩; (· (go_simp; rfl)); simp only [Act.put, List.setIfInBounds_toArray, List.set_cons_zero, List.set_cons_succ]
        refine anyU_pure Later.refl (But.refl _) 10 rfl (by kernel_rfl) (by kernel_rfl) (by kernel_rfl) (fun _ _ _ _ h => h) (by rfl) ?_; apply Exists.intro; refine ⟨fun v1 => ?_, ?_⟩; (· (go_simp; rfl)); simp only [Act.put, List.setIfInBounds_toArray, List.set_cons_zero, List.set_cons_succ]
        refine anyU_pure Later.refl (But.refl _) 11 rfl (by kernel_rfl) (by kernel_rfl) (by kernel_rfl) (fun _ _ _ _ h => h) (by rfl) ?_; apply Exists.intro; refine ⟨fun v1 => ?_, ?_⟩; (· (go_simp; rfl)); simp only [Act.put, List.setIfInBounds_toArray, List.set_cons_zero, List.set_cons_succ]
        refine anyU_val Later.pre 12 [13, 14, 15, 18] rfl (by rfl) (by rfl) (by kernel_rfl) (by kernel_rfl) (by kernel_rfl) (by kernel_rfl) (by kernel_rfl) (fun _ _ _ _ h => h) (by rfl) ?_; apply Exists.intro; refine ⟨fun v1 hv1 => ?_, ?_⟩; (· (go_simp; rfl)); simp only [Act.put, List.setIfInBounds_toArray, List.set_cons_zero, List.set_cons_succ]
        clear hA hB
        refine anyU_one 6 rfl (by kernel_rfl) (by rfl) ?_
        refine wp_enter 45 #[.agg #[.int .u8 p, .int .u32 s, .int .u32 d, .int .u16 a, .int .u16 b]] (by go_simp) ?_
        refine (rkey_any p s d a b Wd).mono ?_
        rintro e W1 ⟨rfl, hb1⟩
        have m1 : Later Wd W1 := hb1
        refine ⟨Rj_out (by rfl) m1, ?_⟩
        simp only [Act.put, List.setIfInBounds_toArray, List.set_cons_zero, List.set_cons_succ]
        refine anyU_pure Later.refl (But.refl _) 13 rfl (by kernel_rfl) (by kernel_rfl) (by kernel_rfl) (fun _ _ _ _ h => h) (by rfl) ?_; apply Exists.intro; refine ⟨fun v1 => ?_, ?_⟩; (· (go_simp; rfl)); simp only [Act.put, List.setIfInBounds_toArray, List.set_cons_zero, List.set_cons_succ]
        refine anyU_one 14 rfl (by kernel_rfl) (by rfl) ?_
        unfold Oper.wp
        go_simp
        have l2 : Later W1 (W1.alloc (.cells (rwc ⟨p, s, d, kyp p a, b, id, till, sq + 1⟩).toArray 86)) := (Below.refl _ _).alloc (Nat.le_refl _) _
        have HN1 := new_drow W1 ⟨p, s, d, kyp p a, b, id, till, sq + 1⟩
        have LL := m1.trans l2
        refine ⟨Rj_out (by rfl) l2, ?_⟩
        change wpAnyU _ _ _ _ _ _ _ _ _ _ (W1.alloc (.cells (rwc ⟨p, s, d, kyp p a, b, id, till, sq + 1⟩).toArray 86))
        generalize W1.alloc (.cells (rwc ⟨p, s, d, kyp p a, b, id, till, sq + 1⟩).toArray 86) = W5 at *
        generalize W1.heap.size = gn at *
        have hT5 := hTd.later LL
        have hs5 : w.heap.size ≤ W5.heap.size := Nat.le_trans B4.size LL.size
        refine anyU_one 15 rfl (by kernel_rfl) (by rfl) ?_
        refine wp_append_lies W5 (.tmp 46) (.tmp 56) 67 rfl base 86 i0 (.agg #[.int .u8 0, .int .u32 0, .int .u32 0, .int .u16 0, .int .u16 0, .int .i64 0, .int .i64 0, .int .i64 0]) 8 40 Try.underlying67 hi0 hz0 hz1 hz2 rfl (by decide) (.slice av l.length cv) l.length (rws l) rfl hT5.2.2 ⟨gn, 0, none⟩ 1 1 (rwc ⟨p, s, d, kyp p a, b, id, till, sq + 1⟩) rfl rfl HN1 (by intro u hu; simp only [rwc, List.mem_cons, List.not_mem_nil, or_false] at hu; rcases hu with rfl | rfl | rfl | rfl | rfl | rfl | rfl | rfl <;> rfl) (by omega) (by unfold maxLen; omega) (by omega) (by omega) _ rfl ?_
        intro g' cap' W6 hrow6 hg6 hpl hlt6
        have hb6 : But (fun g => g = bt ∨ Value.ownBlock (.slice av l.length cv) = some g) W5 W6 := ⟨hg6.os, hg6.tape, hg6.output, hg6.size, fun k hk he => hg6.block k hk (fun e => he (.inr e.symm))⟩
        refine ⟨Rj_in (by rfl) hb6, ?_⟩
        simp only [Act.put, List.setIfInBounds_toArray, List.set_cons_zero, List.set_cons_succ]
        have h6 : W6.heap[bt]? = some (.cells #[.slice av l.length cv, .int .i64 lim, .int .i64 (sq + 1)] 69 (0, 0)) := (hg6.block bt (Array.getElem?_eq_some_iff.1 hT5.2.1).1 (fun e => hgb bt e.symm rfl)).trans hT5.2.1
        have k6 := block_cell h6
        have f6 := block_frozen h6
        refine anyU_pure Later.refl (But.refl _) 16 rfl (by kernel_rfl) (by kernel_rfl) (by kernel_rfl) (fun _ _ _ _ h => h) (by rfl) ?_; apply Exists.intro; refine ⟨fun v1 => ?_, ?_⟩; (· (go_simp; rfl)); simp only [Act.put, List.setIfInBounds_toArray, List.set_cons_zero, List.set_cons_succ]
        refine anyU_pure Later.refl (But.refl _) 17 rfl (by kernel_rfl) (by kernel_rfl) (by kernel_rfl) (fun _ _ _ _ h => h) (by rfl) ?_; apply Exists.intro; refine ⟨fun v1 => ?_, ?_⟩; (· (go_simp; rfl)); simp only [Act.put, List.setIfInBounds_toArray, List.set_cons_zero, List.set_cons_succ]
        refine anyU_one 18 rfl (by kernel_rfl) (by rfl) ?_
        unfold Oper.wp
        go_simp
        generalize hV : W6.setCell ⟨bt, 0, none⟩ _ = V
        have hV4 := heap_set1 h6 0 (.slice (some ⟨g', 0, none⟩) (l.length + 1) cap')
        rw [hV] at hV4
        have hbV2 : But (fun g => g = bt ∨ Value.ownBlock (.slice av l.length cv) = some g) W6 V := by rw [← hV]; exact (But.refl (fun g => g = bt ∨ Value.ownBlock (.slice av l.length cv) = some g) _).setCell (p := ⟨bt, 0, none⟩) (.inl rfl) _
        have hbV3 : But (fun g => g = bt) W6 V := by rw [← hV]; exact (But.refl (fun g => g = bt) _).setCell (p := ⟨bt, 0, none⟩) rfl _
        refine ⟨Rj_in (by rfl) hbV2, ?_⟩
        clear hV k6 f6
        refine anyU_done (by kernel_rfl) ?_
        have hfin : DTq base w V bt (.slice av l.length cv) lim (sq + 1) (l ++ [⟨p, s, d, kyp p a, b, id, till, sq + 1⟩]) := by
          refine ⟨.slice (some ⟨g', 0, none⟩) (l.length + 1) cap', ⟨hT.1, hV4, ?_⟩, B4.trans ((But.of LL).trans (hb6.trans hbV2)), ?_⟩
          · rw [rws_append, List.length_append, List.length_singleton, show rws [(⟨p, s, d, kyp p a, b, id, till, sq + 1⟩ : Rw)] = rwc ⟨p, s, d, kyp p a, b, id, till, sq + 1⟩ from by simp [rws]]
            obtain ⟨q1, ⟨q2, q3⟩ | ⟨g, cap, cur, hv, hgb2, hh, q⟩⟩ := hrow6
            · simp at q2
            · refine ⟨q1, .inr ⟨g, cap, cur, hv, hgb2, (hbV3.block g (Array.getElem?_eq_some_iff.1 hh).1 (fun e => ?_)).trans hh, q⟩⟩
              subst e
              rw [h6] at hh
              simp at hh
          · rcases hpl with h | h
            · exact .inl h.symm
            · refine .inr (fun g hg => ?_)
              have : g' = g := by simpa [Value.ownBlock] using hg
              omega
        have HF := hide hfin
        clear hfin
        go_wp2_with fail
        go_ret
        exact ⟨by rw [HPE.out]; rfl, .inr ⟨HPE.out, HF.out⟩⟩
end Go.Proofs.Ytahphjindjlcpaa

/- The document's Move. -/
namespace Go.Proofs.Ytahphjindjlcpaa
open Go.RowKit Go.Shelf
set_option maxRecDepth 100000
set_option linter.unusedVariables false
set_option linter.unusedSimpArgs false

/-- What the document's Move answers. -/
def rme (l : List Rw) (p s d a b till : Int) : Int := if mayb till = false then 2 else if kix p s d (kyp p a) b l = none then 11 else 0
theorem kix_lt {kp ks kd ka kb : Int} {l : List Rw} {k : Nat} (h : kix kp ks kd ka kb l = some k) : k < l.length := by
  unfold kix at h
  rw [List.findIdx?_eq_some_iff_getElem] at h
  exact h.1

set_option maxHeartbeats 8000000 in
theorem rmove_any (base bt : Nat) (v : Value) (lim sq : Int) (l : List Rw) (p s d a b till : Int) (w : World) (hT : DT base w bt v lim sq l) (hl : l.length ≤ 5000) (hsq : 0 ≤ sq ∧ sq ≤ 1000000) (hbs : base ≤ w.heap.size) :
    Calls Try.prog 29 #[.pointer (some ⟨bt, 0, none⟩), .agg #[.int .u8 p, .int .u32 s, .int .u32 d, .int .u16 a, .int .u16 b], .int .i64 till] w fun e w' => e = .returned (.int .i64 (rme l p s d a b till)) ∧
      ((rme l p s d a b till ≠ 0 ∧ DTq base w w' bt v lim sq l) ∨ (rme l p s d a b till = 0 ∧ ∃ k, kix p s d (kyp p a) b l = some k ∧ DTq base w w' bt v lim (sq + 1) (l.modify k (fun r => { r with till := till, turn := sq + 1 })))) := by
  have lb0 : Later w (w.alloc (.cells #[.int .u8 p, .int .u32 s, .int .u32 d, .int .u16 a, .int .u16 b] 26)) := (Below.refl _ _).alloc (Nat.le_refl _) _
  have t0 := heap_alloc_new w (.cells #[.int .u8 p, .int .u32 s, .int .u32 d, .int .u16 a, .int .u16 b] 26)
  obtain ⟨av, cv, rfl, hcv1, hcv2⟩ := (ownD_rd hT.2.2).slice
  have HAT := hide (fun W (hW : Later w W) => at_any base bt _ lim sq l p s d a b W (hT.later hW))
  go_enter Try.func29, Try.ntmps29
  cases hmb : mayb till with
  | false =>
    have hpe : rme l p s d a b till = 2 := by unfold rme; rw [if_pos hmb]
    have HPE := hide hpe
    have hmb' : till < 0 ∨ 1099511627776 < till := by unfold mayb at hmb; simp at hmb; omega
    clear hpe hmb
    by_cases h0 : till < 0
    · clear hmb'
      go_wp2_with fail
      go_ret
      exact ⟨by rw [HPE.out]; rfl, .inl ⟨by rw [HPE.out]; omega, DTq.same hT lb0⟩⟩
    · have h1 : 1099511627776 < till := by omega
      clear hmb'
      go_wp2_with fail
      go_ret
      exact ⟨by rw [HPE.out]; rfl, .inl ⟨by rw [HPE.out]; omega, DTq.same hT lb0⟩⟩
  | true =>
    have hmb' : 0 ≤ till ∧ till ≤ 1099511627776 := by unfold mayb at hmb; simpa using hmb
    have h0 : ¬ till < 0 := by omega
    have h1 : ¬ 1099511627776 < till := by omega
    have HMB := hide hmb
    have k0 := block_cell t0
    clear hmb hmb'
    go_wp2_with fail
    generalize w.alloc _ = w0 at *
    refine (HAT.out w0 lb0).mono ?_
    rintro e w1 ⟨rfl, l1⟩
    have L1 := lb0.trans l1
    clear k0
    cases hkx : kix p s d (kyp p a) b l with
    | none =>
      have hpe : rme l p s d a b till = 11 := by unfold rme; rw [HMB.out, hkx]; simp
      have HPE := hide hpe
      clear hpe hkx
      rw [rix_none]
      go_wp2_with fail
      go_ret
      exact ⟨by rw [HPE.out]; rfl, .inl ⟨by rw [HPE.out]; omega, DTq.same hT L1⟩⟩
    | some k =>
      have hpe : rme l p s d a b till = 0 := by unfold rme; rw [HMB.out, hkx]; simp
      have hkl := kix_lt hkx
      have HPE := hide hpe
      have HKX := hide hkx
      clear hpe hkx
      rw [rix_some]
      have hk0 : ¬ (k : Int) < 0 := by omega
      have hT1 := hT.later L1
      have kT := block_cell hT1.2.1
      have fT := block_frozen hT1.2.1
      have t1 := later_keep l1 t0
      have c1 : sq + 1 ≤ 9223372036854775807 := by omega
      go_upto_region 8 with fail
      have hV3 := heap_set1 hT1.2.1 2 (.int .i64 (sq + 1))
      have hbV1 : But (fun g => g = bt) w1 (w1.setCell ⟨bt, 2, none⟩ (.int .i64 (sq + 1))) := (But.refl (fun g => g = bt) _).setCell (p := ⟨bt, 2, none⟩) rfl _
      generalize w1.setCell ⟨bt, 2, none⟩ (.int .i64 (sq + 1)) = w3 at *
      clear kT fT
      obtain ⟨g, cap, rfl, rfl⟩ : ∃ g cap, av = some ⟨g, 0, none⟩ ∧ cv = cap := by
        obtain ⟨_, ⟨e, e2⟩ | ⟨g2, cap2, cur, e, _⟩⟩ := hT.2.2
        · omega
        · cases e
          exact ⟨g2, cv, rfl, rfl⟩
      have hgb : g ≠ bt := fun e => hT.ne hT.2.1 (by decide) (by rw [← e]; rfl)
      have hgl : g < w.heap.size := (hT.lt (g := g) rfl).2
      have hT3 : DT base w3 bt (.slice (some ⟨g, 0, none⟩) l.length cv) lim (sq + 1) l := by
        refine ⟨hT.1, hV3, ?_⟩
        obtain ⟨q1, q2 | ⟨g2, cap, cur, e, q2, q3, q4⟩⟩ := hT1.2.2
        · exact ⟨q1, .inl q2⟩
        · exact ⟨q1, .inr ⟨g2, cap, cur, e, q2, (hbV1.block g2 (Array.getElem?_eq_some_iff.1 q3).1 (by cases e; exact hgb)).trans q3, q4⟩⟩
      have hxb : w.heap.size ≠ bt := fun e => by have := hT.blt; omega
      have t3 := (hbV1.block w.heap.size (Array.getElem?_eq_some_iff.1 t1).1 hxb).trans t1
      have B3 : But (fun x => x = bt ∨ Value.ownBlock (.slice (some ⟨g, 0, none⟩) l.length cv) = some x) w w3 := (But.of L1).trans ⟨hbV1.os, hbV1.tape, hbV1.output, hbV1.size, fun k hk he => hbV1.block k hk (fun e => he (.inl e))⟩
      have k3 := block_cell t3
      go_wp2_with fail
      refine (at_any base bt _ lim (sq + 1) l p s d a b w3 hT3).mono ?_
      rw [HKX.out, rix_some]
      rintro e w4 ⟨rfl, l4⟩
      clear k3
      have hT4 := hT3.later l4
      have B4 := B3.trans (But.of l4)
      have hO4 := hT4.2.2
      have hkl' : (k : Int) < l.length := by omega
      have kT := block_cell hT4.2.1
      obtain ⟨cur, hcur, hcs⟩ : ∃ cur, w4.heap[g]? = some (.cells cur 86 (0, 0)) ∧ cur.size = cv * 8 := by
        obtain ⟨_, ⟨e, _⟩ | ⟨g2, cap2, cur, e, _, hh, _, _, hs, _⟩⟩ := hO4
        · cases e
        · cases e
          exact ⟨cur, hh, hs⟩
      have kc := block_cell hcur
      have fc := block_frozen hcur
      obtain ⟨u6, x6⟩ : ∃ u, w4.cell? ⟨g, k * 8 + 6, none⟩ = some u := ⟨cur[k * 8 + 6]'(by omega), by rw [kc]; simp⟩
      clear kc
      go_upto_region 10 with fail
      have hO5 := (hO4.stored (k * 8 + 6) (.int .i64 till)).1
      have hb5 : But (fun x => x = g) w4 (w4.setCell ⟨g, k * 8 + 6, none⟩ (.int .i64 till)) := (But.refl (fun x => x = g) _).setCell (p := ⟨g, k * 8 + 6, none⟩) rfl _
      have hbt5 : (w4.setCell ⟨g, k * 8 + 6, none⟩ (.int .i64 till)).heap[bt]? = _ := (hb5.block bt hT4.blt (fun e => hgb e.symm)).trans hT4.2.1
      generalize w4.setCell ⟨g, k * 8 + 6, none⟩ (.int .i64 till) = w5 at *
      clear kT x6 fc
      refine anyT_begin (R := But (fun x => x = g)) 12 rfl (by kernel_rfl) ?_
      have ld : Later w5 w5.drew := Later.drew w5
      have hbtd := later_keep ld hbt5
      have hOd := ownD_later hO5 ld
      have B5 : But (fun x => x = bt ∨ Value.ownBlock (.slice (some ⟨g, 0, none⟩) l.length cv) = some x) w w5.drew := B4.trans ((⟨hb5.os, hb5.tape, hb5.output, hb5.size, fun x hx he => hb5.block x hx (fun e => he (.inr (by rw [e]; rfl)))⟩ : But (fun x => x = bt ∨ Value.ownBlock (.slice (some ⟨g, 0, none⟩) l.length cv) = some x) w4 w5).trans (But.of ld))
      generalize w5.drew = Wd at *
      have hB : ∀ v1, But (fun x => x = g) Wd v1 → ∀ j, v1.cell? ⟨bt, j, none⟩ = #[Value.slice (some ⟨g, 0, none⟩) l.length cv, .int .i64 lim, .int .i64 (sq + 1)][j]? := fun v1 hv => block_cell ((hv.block bt (Array.getElem?_eq_some_iff.1 hbtd).1 (fun e => hgb e.symm)).trans hbtd)
      refine anyT_val (But.pre _) 0 rfl (by kernel_rfl) (by kernel_rfl) (by kernel_rfl) (fun _ _ _ _ h => h) rfl ?_; apply Exists.intro; refine ⟨fun v1 hv1 => ?_, ?_⟩; (· (go_simp; rfl)); simp only [Act.put, List.setIfInBounds_toArray, List.set_cons_zero, List.set_cons_succ]
      refine anyT_val (But.pre _) 1 rfl (by kernel_rfl) (by kernel_rfl) (by kernel_rfl) (fun _ _ _ _ h => h) rfl ?_; apply Exists.intro; refine ⟨fun v1 hv1 => ?_, ?_⟩; (· (go_simp; rfl)); simp only [Act.put, List.setIfInBounds_toArray, List.set_cons_zero, List.set_cons_succ]
      refine anyT_val (But.pre _) 2 rfl (by kernel_rfl) (by kernel_rfl) (by kernel_rfl) (fun _ _ _ _ h => h) rfl ?_; apply Exists.intro; refine ⟨fun v1 hv1 => ?_, ?_⟩; (· (go_simp; rfl)); simp only [Act.put, List.setIfInBounds_toArray, List.set_cons_zero, List.set_cons_succ]
      refine anyT_val (But.pre _) 3 rfl (by kernel_rfl) (by kernel_rfl) (by kernel_rfl) (fun _ _ _ _ h => h) rfl ?_; apply Exists.intro; refine ⟨fun v1 hv1 => ?_, ?_⟩; (· (go_simp; rfl)); simp only [Act.put, List.setIfInBounds_toArray, List.set_cons_zero, List.set_cons_succ]
      refine anyT_val (But.pre _) 4 rfl (by kernel_rfl) (by kernel_rfl) (by kernel_rfl) (fun _ _ _ _ h => h) rfl ?_; apply Exists.intro; refine ⟨fun v1 hv1 => ?_, ?_⟩; (· (go_simp; rfl)); simp only [Act.put, List.setIfInBounds_toArray, List.set_cons_zero, List.set_cons_succ]
      refine anyT_val (But.pre _) 5 rfl (by kernel_rfl) (by kernel_rfl) (by kernel_rfl) (fun _ _ _ _ h => h) rfl ?_; apply Exists.intro; refine ⟨fun v1 hv1 => ?_, ?_⟩; (· (go_simp; rfl)); simp only [Act.put, List.setIfInBounds_toArray, List.set_cons_zero, List.set_cons_succ]
      refine anyT_val (But.pre _) 6 rfl (by kernel_rfl) (by kernel_rfl) (by kernel_rfl) (fun _ _ _ _ h => h) rfl ?_; apply Exists.intro; refine ⟨fun v1 hv1 => ?_, ?_⟩; (· (go_simp; rfl)); simp only [Act.put, List.setIfInBounds_toArray, List.set_cons_zero, List.set_cons_succ]
      refine anyT_val (But.pre _) 7 rfl (by kernel_rfl) (by kernel_rfl) (by kernel_rfl) (fun _ _ _ _ h => h) rfl ?_; apply Exists.intro; refine ⟨fun v1 hv1 => ?_, ?_⟩; (· (go_simp; rfl)); simp only [Act.put, List.setIfInBounds_toArray, List.set_cons_zero, List.set_cons_succ]
      refine anyT_val (But.pre _) 8 rfl (by kernel_rfl) (by kernel_rfl) (by kernel_rfl) (fun _ _ _ _ h => h) rfl ?_; apply Exists.intro; refine ⟨fun v1 hv1 => ?_, ?_⟩; (· (go_simp; rfl)); simp only [Act.put, List.setIfInBounds_toArray, List.set_cons_zero, List.set_cons_succ]
      refine anyT_val (But.pre _) 9 rfl (by kernel_rfl) (by kernel_rfl) (by kernel_rfl) (fun _ _ _ _ h => h) rfl ?_; apply Exists.intro; refine ⟨fun v1 hv1 => ?_, ?_⟩; (· (go_simp; rfl)); simp only [Act.put, List.setIfInBounds_toArray, List.set_cons_zero, List.set_cons_succ]
      refine anyT_val (But.pre _) 10 rfl (by kernel_rfl) (by kernel_rfl) (by kernel_rfl) (fun _ _ _ _ h => h) rfl ?_; apply Exists.intro; refine ⟨fun v1 hv1 => ?_, ?_⟩; (· (go_simp; rfl)); simp only [Act.put, List.setIfInBounds_toArray, List.set_cons_zero, List.set_cons_succ]
      clear hB
      obtain ⟨cur2, hcur2, hcs2⟩ : ∃ cur, Wd.heap[g]? = some (.cells cur 86 (0, 0)) ∧ cur.size = cv * 8 := by
        obtain ⟨_, ⟨e, _⟩ | ⟨g2, cap2, cur, e, _, hh, _, _, hs, _⟩⟩ := hOd
        · cases e
        · cases e
          exact ⟨cur, hh, hs⟩
      have kc := block_cell hcur2
      have fc := block_frozen hcur2
      obtain ⟨u7, x7⟩ : ∃ u, Wd.cell? ⟨g, k * 8 + 7, none⟩ = some u := ⟨cur2[k * 8 + 7]'(by omega), by rw [kc]; simp⟩
      clear kc
      refine anyT_one 11 rfl (by kernel_rfl) rfl ?_
      unfold Oper.wp
      go_simp
      have hO6 := (hOd.stored (k * 8 + 7) (.int .i64 (sq + 1))).1
      have hb6 : But (fun x => x = g) Wd (Wd.setCell ⟨g, k * 8 + 7, none⟩ (.int .i64 (sq + 1))) := (But.refl (fun x => x = g) _).setCell (p := ⟨g, k * 8 + 7, none⟩) rfl _
      refine ⟨hb6, ?_⟩
      have hbt6 := (hb6.block bt (Array.getElem?_eq_some_iff.1 hbtd).1 (fun e => hgb e.symm)).trans hbtd
      generalize Wd.setCell ⟨g, k * 8 + 7, none⟩ (.int .i64 (sq + 1)) = V at *
      clear x7 fc
      refine anyT_done (by kernel_rfl) ?_
      have hfin : DTq base w V bt (.slice (some ⟨g, 0, none⟩) l.length cv) lim (sq + 1) (l.modify k (fun r => { r with till := till, turn := sq + 1 })) := by
        refine ⟨.slice (some ⟨g, 0, none⟩) l.length cv, ⟨hT.1, hbt6, ?_⟩, B5.trans ⟨hb6.os, hb6.tape, hb6.output, hb6.size, fun x hx he => hb6.block x hx (fun e => he (.inr (by rw [e]; rfl)))⟩, .inl rfl⟩
        rw [List.length_modify, rws_modify till (sq + 1) l k hkl]
        exact hO6
      have HF := hide hfin
      clear hfin
      go_wp2_with fail
      go_ret
      exact ⟨by rw [HPE.out]; rfl, .inr ⟨HPE.out, k, HKX.out, HF.out⟩⟩
end Go.Proofs.Ytahphjindjlcpaa

/- The document's Drop of a table. -/
namespace Go.Proofs.Ytahphjindjlcpaa
open Go.RowKit Go.Shelf
set_option maxRecDepth 100000
set_option linter.unusedVariables false
set_option linter.unusedSimpArgs false

theorem rws_takeD (l : List Rw) (k : Nat) (hk : k ≤ l.length) : (rws l).take (k * 8) = rws (l.take k) := by
  conv => lhs; rw [← List.take_append_drop k l]
  rw [rws_append, List.take_left' (by rw [rws_length, List.length_take, Nat.min_eq_left hk])]
/-- The first of one's own. -/
theorem ownD_take {base : Nat} {W : World} {g n cap : Nat} {l : List Rw} (k : Nat) (hk : k ≤ l.length) (h : W.ownsRow base 86 8 (.slice (some ⟨g, 0, none⟩) n cap) l.length (rws l)) : W.ownsRow base 86 8 (.slice (some ⟨g, 0, none⟩) k cap) k (rws (l.take k)) := by
  obtain ⟨h1, ⟨e, _⟩ | ⟨g2, cap2, cur, e, hg, hh, hl, hm, hs, hc⟩⟩ := h
  · cases e
  · cases e
    refine ⟨by rw [rws_length, List.length_take, Nat.min_eq_left hk], .inr ⟨g, cap, cur, rfl, hg, hh, by omega, hm, hs, ?_⟩⟩
    rw [← rws_takeD l k hk, ← hc, List.take_take, Nat.min_eq_left (by omega)]
theorem rws_oneD (l : List Rw) : ∀ u ∈ rws l, u.oneCell' = true := fun u hu => by
  obtain ⟨r, _, hr⟩ := List.mem_flatMap.1 hu
  simp only [rwc, List.mem_cons, List.not_mem_nil, or_false] at hr
  rcases hr with rfl | rfl | rfl | rfl | rfl | rfl | rfl | rfl <;> rfl

theorem addr_add' (b off k : Nat) : (⟨b, off, none⟩ : Addr).add k = ⟨b, off + k, none⟩ := by unfold Addr.add; split <;> simp_all
theorem erase_eqR (l : List Rw) (i : Nat) : l.eraseIdx i = l.take i ++ l.drop (i + 1) := List.eraseIdx_eq_take_drop_succ l i
/-- All of a list appended onto one's own. -/
theorem appD (w : World) (ty : TypeId) (base n₀ : Nat) (v : Value) (xs : List Rw) (sv : Value) (ys : List Rw) (hown : w.ownsRow base 86 8 v xs.length (rws xs)) (hI : RdR n₀ w sv ys) (hbase : base ≤ w.heap.size) (hs : xs.length + ys.length ≤ 10000) :
    ∃ v' w', (Builtin.append_ #[67, 67] ty #[v, sv]).run Try.prog w = .ok v' w' ∧ w'.ownsRow base 86 8 v' (xs ++ ys).length (rws (xs ++ ys)) ∧ w.grownBy w' v.ownBlock ∧ (v'.ownBlock = v.ownBlock ∨ v'.ownBlock = some w.heap.size) := by
  obtain ⟨i0, hi0, hz0, hz1, hz2⟩ := info_parts info_drow
  rcases hI with ⟨a, cap, rfl, rfl, hcm, ha⟩ | ⟨b, off, cap, rfl, hne, hl, hm, hb, hc⟩
  · obtain ⟨av, cv, rfl, hv1, hv2⟩ := (ownD_rd hown).slice
    refine ⟨_, w, run_append_nothing w _ _ ty _ i0 Try.underlying67 hi0 av xs.length cv hv1 (.slice a 0 cap) ?_, by rw [List.append_nil]; exact hown, ⟨rfl, rfl, rfl, Nat.le_refl _, fun _ _ _ => rfl⟩, .inl rfl⟩
    refine ⟨.inl ⟨_, Try.underlying67⟩, fun w' => ?_, ?_, ?_, by simp, by simp⟩ <;> cases a <;> simp [Builtin.lenOf, Builtin.firstCells, go_sem]
  · have hp : 0 < ys.length := List.length_pos_iff.2 hne
    obtain ⟨g, cap', w', hr, h2, h3, h4, h5⟩ := run_append_lies (P := Try.prog) w 67 ty base 86 i0 _ 8 40 Try.underlying67 hi0 hz0 hz1 hz2 rfl (by decide) v xs.length (rws xs) hown ⟨b, off, none⟩ ys.length cap (rws ys) (rws_length ys) (fun j u hj => by
      have hlt := (List.getElem?_eq_some_iff.1 hj).1
      rw [rws_length] at hlt
      rw [addr_add']
      have h1 := hc (j / 8) (by omega) (j % 8) (Nat.mod_lt _ (by omega))
      rw [← rws_at ys (j / 8) (j % 8) (by omega) (Nat.mod_lt _ (by omega)), show j / 8 * 8 + j % 8 = j from by omega, hj] at h1
      rw [← h1]
      congr 2
      omega) (rws_oneD ys) hp (by unfold maxLen; omega) (by omega) hbase _ rfl
    refine ⟨_, w', hr, by rw [List.length_append, rws_append]; exact h2, h3, ?_⟩
    rcases h4 with h4 | h4
    · exact .inl (by rw [h4]; rfl)
    · exact .inr (by rw [h4]; rfl)

/-- What is behind some of one's own, as a slice reads it. -/
theorem ownD_drop {base : Nat} {W : World} {g cap : Nat} {l : List Rw} (k : Nat) (hk : k ≤ l.length) (h : W.ownsRow base 86 8 (.slice (some ⟨g, 0, none⟩) l.length cap) l.length (rws l)) :
    RdR W.heap.size W (.slice (if cap = k then some ⟨g, 0, none⟩ else some ⟨g, k * 8, none⟩) (l.length - k) (cap - k)) (l.drop k) := by
  obtain ⟨h1, ⟨e, _⟩ | ⟨g2, cap2, cur, e, hg, hh, hl, hm, hs, hc⟩⟩ := h
  · cases e
  · cases e
    have hm' : cap ≤ 9223372036854775807 := by simpa [maxLen] using hm
    by_cases h0 : l.length = k
    · subst h0
      exact .inl ⟨_, _, by rw [Nat.sub_self], by simp, by omega, fun h => by split at h <;> cases h⟩
    · refine .inr ⟨g, k * 8, cap - k, by rw [if_neg (by omega), List.length_drop], fun e => by have := congrArg List.length e; simp at this; omega, by simp; omega, by omega, (Array.getElem?_eq_some_iff.1 hh).1, fun j hj i hi => ?_⟩
      have hj' : k + j < l.length := by simp at hj; omega
      rw [block_cell hh, show k * 8 + j * 8 + i = (k + j) * 8 + i from by omega, List.getElem_drop, ← rws_at l (k + j) i hj' hi, ← hc, List.getElem?_take_of_lt (by omega)]
      simp


/-- What the document's Drop answers. -/
def rde (l : List Rw) (p s d a b : Int) : Int := if kix p s d (kyp p a) b l = none then 11 else 0

set_option maxHeartbeats 8000000 in
theorem rtdrop_any (base bt : Nat) (v : Value) (lim sq : Int) (l : List Rw) (p s d a b : Int) (w : World) (hT : DT base w bt v lim sq l) (hl : l.length ≤ 5000) (hbs : base ≤ w.heap.size) :
    Calls Try.prog 30 #[.pointer (some ⟨bt, 0, none⟩), .agg #[.int .u8 p, .int .u32 s, .int .u32 d, .int .u16 a, .int .u16 b]] w fun e w' => e = .returned (.int .i64 (rde l p s d a b)) ∧
      ((kix p s d (kyp p a) b l = none ∧ DTq base w w' bt v lim sq l) ∨ (∃ k, kix p s d (kyp p a) b l = some k ∧ DTq base w w' bt v lim sq (l.eraseIdx k))) := by
  have lb0 : Later w (w.alloc (.cells #[.int .u8 p, .int .u32 s, .int .u32 d, .int .u16 a, .int .u16 b] 26)) := (Below.refl _ _).alloc (Nat.le_refl _) _
  have t0 := heap_alloc_new w (.cells #[.int .u8 p, .int .u32 s, .int .u32 d, .int .u16 a, .int .u16 b] 26)
  obtain ⟨av, cv, rfl, hcl, hcm⟩ := (ownD_rd hT.2.2).slice
  have HAT := hide (fun W (hW : Later w W) => at_any base bt _ lim sq l p s d a b W (hT.later hW))
  have k0 := block_cell t0
  go_enter Try.func30, Try.ntmps30
  go_wp2_with fail
  generalize w.alloc _ = w0 at *
  refine (HAT.out w0 lb0).mono ?_
  rintro e w1 ⟨rfl, l1⟩
  have L1 := lb0.trans l1
  clear k0
  cases hkx : kix p s d (kyp p a) b l with
  | none =>
    have hpe : rde l p s d a b = 11 := by unfold rde; rw [hkx]; simp
    have HPE := hide hpe
    have HKX := hide hkx
    clear hpe hkx
    rw [rix_none]
    go_wp2_with fail
    go_ret
    exact ⟨by rw [HPE.out]; rfl, .inl ⟨HKX.out, DTq.same hT L1⟩⟩
  | some j =>
    have hpe : rde l p s d a b = 0 := by unfold rde; rw [hkx]; simp
    have hj := kix_lt hkx
    have HPE := hide hpe
    have HKX := hide hkx
    clear hpe hkx
    rw [rix_some]
    have hk0 : ¬ (j : Int) < 0 := by omega
    obtain ⟨g, cap, rfl, rfl⟩ : ∃ g cap, av = some ⟨g, 0, none⟩ ∧ cv = cap := by
      obtain ⟨_, ⟨e, e2⟩ | ⟨g2, cap2, cur, e, _⟩⟩ := hT.2.2
      · omega
      · cases e
        exact ⟨g2, cv, rfl, rfl⟩
    go_upto_region 7 with fail
    have h2 : (j : Int) + 1 ≤ 9223372036854775807 := by omega
    have HJ := hide hj
    have i1 : (j : Int) ≤ cv := by omega
    have i2 : (j : Int) + 1 ≤ l.length := by omega
    have i3 : (l.length : Int) ≤ cv := by omega
    have i4 : ¬ cv = 0 := by omega
    have i5 : j ≤ cv := by omega
    have i6 : j + 1 ≤ l.length := by omega
    have HT := hide hT
    clear hj
    refine anyT_begin (R := But (fun x => w.heap.size ≤ x)) 17 rfl (by kernel_rfl) ?_
    have ld : Later w w1.drew := L1.trans (Later.drew w1)
    have hsd : w.heap.size ≤ w1.drew.heap.size := ld.size
    generalize w1.drew = Wd at *
    have hbd : ∀ v1, But (fun x => w.heap.size ≤ x) Wd v1 → ∀ j, v1.cell? ⟨bt, j, none⟩ = #[Value.slice (some ⟨g, 0, none⟩) l.length cv, .int .i64 lim, .int .i64 sq][j]? := fun v1 hv => block_cell ((hv.block bt (by have := HT.out.blt; omega) (fun e => by have := HT.out.blt; omega)).trans (HT.out.later ld).2.1)
    have hwr : IntKind.i64.wrap ((j : Int) + 1) = (j : Int) + 1 := by simp [IntKind.wrap, IntKind.bits, IntKind.signed]; omega
    have HWR := hide hwr
    clear hwr
    by_cases hcap : cv = j + 1
    · subst hcap
      have i7 : (j : Int) ≤ (j : Int) + 1 := by omega
      have i8 : (l.length : Int) ≤ (j : Int) + 1 := by omega
      refine anyT_val (But.pre _) 0 rfl (by kernel_rfl) (by kernel_rfl) (by kernel_rfl) (fun _ _ _ _ h => h) rfl ?_; apply Exists.intro; refine ⟨fun v1 hv1 => ?_, ?_⟩; (· (go_simp; rfl)); simp only [Act.put, List.setIfInBounds_toArray, List.set_cons_zero, List.set_cons_succ]
      refine anyT_val (But.pre _) 1 rfl (by kernel_rfl) (by kernel_rfl) (by kernel_rfl) (fun _ _ _ _ h => h) rfl ?_; apply Exists.intro; refine ⟨fun v1 hv1 => ?_, ?_⟩; (· (go_simp; rfl)); simp only [Act.put, List.setIfInBounds_toArray, List.set_cons_zero, List.set_cons_succ]
      refine anyT_val (But.pre _) 2 rfl (by kernel_rfl) (by kernel_rfl) (by kernel_rfl) (fun _ _ _ _ h => h) rfl ?_; apply Exists.intro; refine ⟨fun v1 hv1 => ?_, ?_⟩; (· (go_simp; rfl)); simp only [Act.put, List.setIfInBounds_toArray, List.set_cons_zero, List.set_cons_succ]
      refine anyT_val (But.pre _) 3 rfl (by kernel_rfl) (by kernel_rfl) (by kernel_rfl) (fun _ _ _ _ h => h) rfl ?_; apply Exists.intro; refine ⟨fun v1 hv1 => ?_, ?_⟩; (· (go_simp; rfl)); simp only [Act.put, List.setIfInBounds_toArray, List.set_cons_zero, List.set_cons_succ]
      refine anyT_val (But.pre _) 4 rfl (by kernel_rfl) (by kernel_rfl) (by kernel_rfl) (fun _ _ _ _ h => h) rfl ?_; apply Exists.intro; refine ⟨fun v1 hv1 => ?_, ?_⟩; (· (go_simp; rfl)); simp only [Act.put, List.setIfInBounds_toArray, List.set_cons_zero, List.set_cons_succ]
      refine anyT_val (But.pre _) 5 rfl (by kernel_rfl) (by kernel_rfl) (by kernel_rfl) (fun _ _ _ _ h => h) rfl ?_; apply Exists.intro; refine ⟨fun v1 hv1 => ?_, ?_⟩; (· (go_simp; rfl)); simp only [Act.put, List.setIfInBounds_toArray, List.set_cons_zero, List.set_cons_succ]
      refine anyT_val (But.pre _) 6 rfl (by kernel_rfl) (by kernel_rfl) (by kernel_rfl) (fun _ _ _ _ h => h) rfl ?_; apply Exists.intro; refine ⟨fun v1 hv1 => ?_, ?_⟩; (· (go_simp; rfl)); simp only [Act.put, List.setIfInBounds_toArray, List.set_cons_zero, List.set_cons_succ]
      refine anyT_val (But.pre _) 8 rfl (by kernel_rfl) (by kernel_rfl) (by kernel_rfl) (fun _ _ _ _ h => h) rfl ?_; apply Exists.intro; refine ⟨fun v1 hv1 => ?_, ?_⟩; (· (go_simp; rfl)); simp only [Act.put, List.setIfInBounds_toArray, List.set_cons_zero, List.set_cons_succ]
      refine anyT_val (But.pre _) 9 rfl (by kernel_rfl) (by kernel_rfl) (by kernel_rfl) (fun _ _ _ _ h => h) rfl ?_; apply Exists.intro; refine ⟨fun v1 hv1 => ?_, ?_⟩; (· (go_simp; rfl)); simp only [Act.put, List.setIfInBounds_toArray, List.set_cons_zero, List.set_cons_succ]
      refine anyT_val (But.pre _) 10 rfl (by kernel_rfl) (by kernel_rfl) (by kernel_rfl) (fun _ _ _ _ h => h) rfl ?_; apply Exists.intro; refine ⟨fun v1 hv1 => ?_, ?_⟩; (· (go_simp; rfl)); simp only [Act.put, List.setIfInBounds_toArray, List.set_cons_zero, List.set_cons_succ]
      refine anyT_val (But.pre _) 11 rfl (by kernel_rfl) (by kernel_rfl) (by kernel_rfl) (fun _ _ _ _ h => h) rfl ?_; apply Exists.intro; refine ⟨fun v1 hv1 => ?_, ?_⟩; (· (go_simp; rfl)); simp only [Act.put, List.setIfInBounds_toArray, List.set_cons_zero, List.set_cons_succ]
      refine anyT_val (But.pre _) 12 rfl (by kernel_rfl) (by kernel_rfl) (by kernel_rfl) (fun _ _ _ _ h => h) rfl ?_; apply Exists.intro; refine ⟨fun v1 hv1 => ?_, ?_⟩; (· (go_simp; rfl)); simp only [Act.put, List.setIfInBounds_toArray, List.set_cons_zero, List.set_cons_succ]
      refine anyT_val (But.pre _) 13 rfl (by kernel_rfl) (by kernel_rfl) (by kernel_rfl) (fun _ _ _ _ h => h) rfl ⟨.int .i64 ((j : Int) + 1), fun v1 hv1 => by go_simp; rw [HWR.out], ?_⟩
      simp only [Act.put, List.setIfInBounds_toArray, List.set_cons_zero, List.set_cons_succ]
      refine anyT_val (But.pre _) 14 rfl (by kernel_rfl) (by kernel_rfl) (by kernel_rfl) (fun _ _ _ _ h => h) rfl ?_; apply Exists.intro; refine ⟨fun v1 hv1 => ?_, ?_⟩; (· (go_simp; rfl)); simp only [Act.put, List.setIfInBounds_toArray, List.set_cons_zero, List.set_cons_succ]
      clear hbd
      have hr0 : Wd.ownsRow base 86 8 (.slice none 0 0) ([] : List Rw).length (rws []) := ⟨rfl, .inl ⟨rfl, rfl⟩⟩
      obtain ⟨v1, W1, q1, q2, q3, q4⟩ := appD Wd 67 base Wd.heap.size (.slice none 0 0) [] (.slice (some ⟨g, 0, none⟩) j (j + 1)) (l.take j) hr0 (ownD_rd (l := l.take j) (by rw [List.length_take, Nat.min_eq_left (by omega)]; exact ownD_take j (by omega) (HT.out.later ld).2.2)) (by omega) (by simp; omega)
      have b1 : But (fun x => w.heap.size ≤ x) Wd W1 := ⟨q3.os, q3.tape, q3.output, q3.size, fun k hk he => q3.block k hk (fun e => by cases e)⟩
      have l1 : Later Wd W1 := ⟨q3.os, q3.tape, q3.output, q3.size, fun k hk => q3.block k hk (fun e => by cases e)⟩
      have L1 := ld.trans l1
      have hs1 := L1.size
      refine anyT_one 7 rfl (by kernel_rfl) rfl ?_
      refine wp_app (.tmp 14) (.tmp 20) 67 rfl _ _ rfl rfl _ W1 q1 ⟨b1, ?_⟩
      simp only [Act.put, List.setIfInBounds_toArray, List.set_cons_zero, List.set_cons_succ]
      have hd1 := ownD_drop (j + 1) (by omega) (HT.out.later L1).2.2
      rw [if_pos rfl, Nat.sub_self, show l.length - (j + 1) = 0 from by omega] at hd1
      obtain ⟨v2, W2, p1, p2, p3, p4⟩ := appD W1 67 base W1.heap.size v1 ([] ++ l.take j) _ (l.drop (j + 1)) q2 hd1 (by omega) (by simp; omega)
      have f1 : ∀ x, v1.ownBlock = some x → w.heap.size ≤ x := fun x hx => by
        rcases q4 with h | h
        · rw [h] at hx; cases hx
        · rw [h] at hx; cases hx; omega
      have f2 : ∀ x, v2.ownBlock = some x → w.heap.size ≤ x := fun x hx => by
        rcases p4 with h | h
        · rw [h] at hx; exact f1 x hx
        · rw [h] at hx; cases hx; omega
      have b2 : But (fun x => w.heap.size ≤ x) W1 W2 := ⟨p3.os, p3.tape, p3.output, p3.size, fun k hk he => p3.block k hk (fun e => he (f1 k e.symm))⟩
      rw [List.nil_append, ← erase_eqR] at p2
      obtain ⟨a2, c2, rfl, _, _⟩ := (ownD_rd p2).slice
      refine anyT_one 15 rfl (by kernel_rfl) rfl ?_
      refine wp_app (.tmp 21) (.tmp 28) 67 rfl _ _ rfl rfl _ W2 p1 ⟨b2, ?_⟩
      simp only [Act.put, List.setIfInBounds_toArray, List.set_cons_zero, List.set_cons_succ]
      refine anyT_one 16 rfl (by kernel_rfl) rfl ?_
      unfold Oper.wp
      go_simp
      refine ⟨But.refl _ _, ?_⟩
      refine anyT_done (by kernel_rfl) ?_
      have bz : But (fun x => w.heap.size ≤ x) w W2 := (But.of ld).trans (b1.trans b2)
      have hb0 := (bz.block bt HT.out.blt (fun e => by have := HT.out.blt; omega)).trans HT.out.2.1
      have kz := block_cell hb0
      have fz := block_frozen hb0
      have P2 := hide p2
      have F2 := hide f2
      clear p2 f2 q2 p1 q1 hd1 q4 p4 f1 hr0
      go_wp2_with fail
      go_ret
      refine ⟨by rw [HPE.out]; rfl, .inr ⟨j, HKX.out, ?_⟩⟩
      have bs : But (fun x => x = bt ∨ Value.ownBlock (.slice (some ⟨g, 0, none⟩) l.length (j + 1)) = some x) w (W2.setCell ⟨bt, 0, none⟩ (.slice a2 (l.eraseIdx j).length c2)) := by
        refine ⟨bz.os, bz.tape, bz.output, Nat.le_trans bz.size (by simp), fun k hk he => ?_⟩
        exact (Below.heap_setCell W2 ⟨bt, 0, none⟩ _ k (fun e => he (.inl e))).trans (bz.block k hk (fun e => by omega))
      refine ⟨.slice a2 (l.eraseIdx j).length c2, ⟨HT.out.1, heap_set1 hb0 0 _, ?_⟩, bs, .inr F2.out⟩
      obtain ⟨s1, s2 | ⟨g2, cap2, cur, e, s2, s3, s4⟩⟩ := P2.out
      · exact ⟨s1, .inl s2⟩
      · refine ⟨s1, .inr ⟨g2, cap2, cur, e, s2, hset_ne s3 (fun e2 => ?_), s4⟩⟩
        rw [e2, hb0] at s3
        simp at s3
    · have hn : True := trivial
      refine anyT_val (But.pre _) 0 rfl (by kernel_rfl) (by kernel_rfl) (by kernel_rfl) (fun _ _ _ _ h => h) rfl ?_; apply Exists.intro; refine ⟨fun v1 hv1 => ?_, ?_⟩; (· (go_simp; rfl)); simp only [Act.put, List.setIfInBounds_toArray, List.set_cons_zero, List.set_cons_succ]
      refine anyT_val (But.pre _) 1 rfl (by kernel_rfl) (by kernel_rfl) (by kernel_rfl) (fun _ _ _ _ h => h) rfl ?_; apply Exists.intro; refine ⟨fun v1 hv1 => ?_, ?_⟩; (· (go_simp; rfl)); simp only [Act.put, List.setIfInBounds_toArray, List.set_cons_zero, List.set_cons_succ]
      refine anyT_val (But.pre _) 2 rfl (by kernel_rfl) (by kernel_rfl) (by kernel_rfl) (fun _ _ _ _ h => h) rfl ?_; apply Exists.intro; refine ⟨fun v1 hv1 => ?_, ?_⟩; (· (go_simp; rfl)); simp only [Act.put, List.setIfInBounds_toArray, List.set_cons_zero, List.set_cons_succ]
      refine anyT_val (But.pre _) 3 rfl (by kernel_rfl) (by kernel_rfl) (by kernel_rfl) (fun _ _ _ _ h => h) rfl ?_; apply Exists.intro; refine ⟨fun v1 hv1 => ?_, ?_⟩; (· (go_simp; rfl)); simp only [Act.put, List.setIfInBounds_toArray, List.set_cons_zero, List.set_cons_succ]
      refine anyT_val (But.pre _) 4 rfl (by kernel_rfl) (by kernel_rfl) (by kernel_rfl) (fun _ _ _ _ h => h) rfl ?_; apply Exists.intro; refine ⟨fun v1 hv1 => ?_, ?_⟩; (· (go_simp; rfl)); simp only [Act.put, List.setIfInBounds_toArray, List.set_cons_zero, List.set_cons_succ]
      refine anyT_val (But.pre _) 5 rfl (by kernel_rfl) (by kernel_rfl) (by kernel_rfl) (fun _ _ _ _ h => h) rfl ?_; apply Exists.intro; refine ⟨fun v1 hv1 => ?_, ?_⟩; (· (go_simp; rfl)); simp only [Act.put, List.setIfInBounds_toArray, List.set_cons_zero, List.set_cons_succ]
      refine anyT_val (But.pre _) 6 rfl (by kernel_rfl) (by kernel_rfl) (by kernel_rfl) (fun _ _ _ _ h => h) rfl ?_; apply Exists.intro; refine ⟨fun v1 hv1 => ?_, ?_⟩; (· (go_simp; rfl)); simp only [Act.put, List.setIfInBounds_toArray, List.set_cons_zero, List.set_cons_succ]
      refine anyT_val (But.pre _) 8 rfl (by kernel_rfl) (by kernel_rfl) (by kernel_rfl) (fun _ _ _ _ h => h) rfl ?_; apply Exists.intro; refine ⟨fun v1 hv1 => ?_, ?_⟩; (· (go_simp; rfl)); simp only [Act.put, List.setIfInBounds_toArray, List.set_cons_zero, List.set_cons_succ]
      refine anyT_val (But.pre _) 9 rfl (by kernel_rfl) (by kernel_rfl) (by kernel_rfl) (fun _ _ _ _ h => h) rfl ?_; apply Exists.intro; refine ⟨fun v1 hv1 => ?_, ?_⟩; (· (go_simp; rfl)); simp only [Act.put, List.setIfInBounds_toArray, List.set_cons_zero, List.set_cons_succ]
      refine anyT_val (But.pre _) 10 rfl (by kernel_rfl) (by kernel_rfl) (by kernel_rfl) (fun _ _ _ _ h => h) rfl ?_; apply Exists.intro; refine ⟨fun v1 hv1 => ?_, ?_⟩; (· (go_simp; rfl)); simp only [Act.put, List.setIfInBounds_toArray, List.set_cons_zero, List.set_cons_succ]
      refine anyT_val (But.pre _) 11 rfl (by kernel_rfl) (by kernel_rfl) (by kernel_rfl) (fun _ _ _ _ h => h) rfl ?_; apply Exists.intro; refine ⟨fun v1 hv1 => ?_, ?_⟩; (· (go_simp; rfl)); simp only [Act.put, List.setIfInBounds_toArray, List.set_cons_zero, List.set_cons_succ]
      refine anyT_val (But.pre _) 12 rfl (by kernel_rfl) (by kernel_rfl) (by kernel_rfl) (fun _ _ _ _ h => h) rfl ?_; apply Exists.intro; refine ⟨fun v1 hv1 => ?_, ?_⟩; (· (go_simp; rfl)); simp only [Act.put, List.setIfInBounds_toArray, List.set_cons_zero, List.set_cons_succ]
      refine anyT_val (But.pre _) 13 rfl (by kernel_rfl) (by kernel_rfl) (by kernel_rfl) (fun _ _ _ _ h => h) rfl ⟨.int .i64 ((j : Int) + 1), fun v1 hv1 => by go_simp; rw [HWR.out], ?_⟩
      simp only [Act.put, List.setIfInBounds_toArray, List.set_cons_zero, List.set_cons_succ]
      refine anyT_val (But.pre _) 14 rfl (by kernel_rfl) (by kernel_rfl) (by kernel_rfl) (fun _ _ _ _ h => h) rfl ?_; apply Exists.intro; refine ⟨fun v1 hv1 => ?_, ?_⟩; (· (go_simp; rfl)); simp only [Act.put, List.setIfInBounds_toArray, List.set_cons_zero, List.set_cons_succ]
      clear hbd
      have hr0 : Wd.ownsRow base 86 8 (.slice none 0 0) ([] : List Rw).length (rws []) := ⟨rfl, .inl ⟨rfl, rfl⟩⟩
      obtain ⟨v1, W1, q1, q2, q3, q4⟩ := appD Wd 67 base Wd.heap.size (.slice none 0 0) [] (.slice (some ⟨g, 0, none⟩) j cv) (l.take j) hr0 (ownD_rd (l := l.take j) (by rw [List.length_take, Nat.min_eq_left (by omega)]; exact ownD_take j (by omega) (HT.out.later ld).2.2)) (by omega) (by simp; omega)
      have b1 : But (fun x => w.heap.size ≤ x) Wd W1 := ⟨q3.os, q3.tape, q3.output, q3.size, fun k hk he => q3.block k hk (fun e => by cases e)⟩
      have l1 : Later Wd W1 := ⟨q3.os, q3.tape, q3.output, q3.size, fun k hk => q3.block k hk (fun e => by cases e)⟩
      have L1 := ld.trans l1
      have hs1 := L1.size
      refine anyT_one 7 rfl (by kernel_rfl) rfl ?_
      refine wp_app (.tmp 14) (.tmp 20) 67 rfl _ _ rfl rfl _ W1 q1 ⟨b1, ?_⟩
      simp only [Act.put, List.setIfInBounds_toArray, List.set_cons_zero, List.set_cons_succ]
      have hd1 := ownD_drop (j + 1) (by omega) (HT.out.later L1).2.2
      rw [if_neg hcap] at hd1
      obtain ⟨v2, W2, p1, p2, p3, p4⟩ := appD W1 67 base W1.heap.size v1 ([] ++ l.take j) _ (l.drop (j + 1)) q2 hd1 (by omega) (by simp; omega)
      have f1 : ∀ x, v1.ownBlock = some x → w.heap.size ≤ x := fun x hx => by
        rcases q4 with h | h
        · rw [h] at hx; cases hx
        · rw [h] at hx; cases hx; omega
      have f2 : ∀ x, v2.ownBlock = some x → w.heap.size ≤ x := fun x hx => by
        rcases p4 with h | h
        · rw [h] at hx; exact f1 x hx
        · rw [h] at hx; cases hx; omega
      have b2 : But (fun x => w.heap.size ≤ x) W1 W2 := ⟨p3.os, p3.tape, p3.output, p3.size, fun k hk he => p3.block k hk (fun e => he (f1 k e.symm))⟩
      rw [List.nil_append, ← erase_eqR] at p2
      obtain ⟨a2, c2, rfl, _, _⟩ := (ownD_rd p2).slice
      refine anyT_one 15 rfl (by kernel_rfl) rfl ?_
      refine wp_app (.tmp 21) (.tmp 28) 67 rfl _ _ rfl rfl _ W2 p1 ⟨b2, ?_⟩
      simp only [Act.put, List.setIfInBounds_toArray, List.set_cons_zero, List.set_cons_succ]
      refine anyT_one 16 rfl (by kernel_rfl) rfl ?_
      unfold Oper.wp
      go_simp
      refine ⟨But.refl _ _, ?_⟩
      refine anyT_done (by kernel_rfl) ?_
      have bz : But (fun x => w.heap.size ≤ x) w W2 := (But.of ld).trans (b1.trans b2)
      have hb0 := (bz.block bt HT.out.blt (fun e => by have := HT.out.blt; omega)).trans HT.out.2.1
      have kz := block_cell hb0
      have fz := block_frozen hb0
      have P2 := hide p2
      have F2 := hide f2
      clear p2 f2 q2 p1 q1 hd1 q4 p4 f1 hr0
      go_wp2_with fail
      go_ret
      refine ⟨by rw [HPE.out]; rfl, .inr ⟨j, HKX.out, ?_⟩⟩
      have bs : But (fun x => x = bt ∨ Value.ownBlock (.slice (some ⟨g, 0, none⟩) l.length cv) = some x) w (W2.setCell ⟨bt, 0, none⟩ (.slice a2 (l.eraseIdx j).length c2)) := by
        refine ⟨bz.os, bz.tape, bz.output, Nat.le_trans bz.size (by simp), fun k hk he => ?_⟩
        exact (Below.heap_setCell W2 ⟨bt, 0, none⟩ _ k (fun e => he (.inl e))).trans (bz.block k hk (fun e => by omega))
      refine ⟨.slice a2 (l.eraseIdx j).length c2, ⟨HT.out.1, heap_set1 hb0 0 _, ?_⟩, bs, .inr F2.out⟩
      obtain ⟨s1, s2 | ⟨g2, cap2, cur, e, s2, s3, s4⟩⟩ := P2.out
      · exact ⟨s1, .inl s2⟩
      · refine ⟨s1, .inr ⟨g2, cap2, cur, e, s2, hset_ne s3 (fun e2 => ?_), s4⟩⟩
        rw [e2, hb0] at s3
        simp at s3
end Go.Proofs.Ytahphjindjlcpaa

/- The program's rows and the document's: the same, in another order. -/
namespace Go.Proofs.Ytahphjindjlcpaa
open Go.RowKit Go.Shelf
set_option maxRecDepth 100000
set_option linter.unusedVariables false
set_option linter.unusedSimpArgs false

def rky (r : Rw) : Int × Int × Int × Int × Int := (r.p, r.s, r.d, r.a, r.b)
theorem isK_iff {p s d a b : Int} {r : Rw} : isK p s d a b r = true ↔ rky r = (p, s, d, a, b) := by
  unfold isK rky
  simp
/-- No key stands twice. -/
def UP (l : List Rw) : Prop := l.Pairwise (fun r q => rky r ≠ rky q)
theorem UP.uq {l : List Rw} (h : UP l) : UQ l := fun kp ks kd ka kb i j hi hj h1 h2 => by
  have e : rky l[i] = rky l[j] := by rw [isK_iff.1 h1, isK_iff.1 h2]
  unfold UP at h
  rw [List.pairwise_iff_getElem] at h
  rcases Nat.lt_trichotomy i j with hlt | he | hgt
  · exact absurd e (h i j hi hj hlt)
  · exact he
  · exact absurd e.symm (h j i hj hi hgt)
/-- The list that a row stands in. -/
def bkr (r : Rw) : Nat := (hsh (tb r.p r.s r.d r.a r.b) % 256).toNat
theorem bkr_key {p s d a b : Int} {r : Rw} (h : isK p s d (kyp p a) b r = true) : bkr r = bki p s d a b := by
  have := isK_iff.1 h
  unfold rky at this
  simp at this
  unfold bkr bki
  rw [this.1, this.2.1, this.2.2.1, this.2.2.2.1, this.2.2.2.2]
structure Rel (ls : Nat → List Rw) (l : List Rw) : Prop where
  place : ∀ i, ∀ r ∈ ls i, bkr r = i
  once : ∀ i, UP (ls i)
  up : UP l
  mem : ∀ r, r ∈ l ↔ r ∈ ls (bkr r)
theorem Rel.uq {ls : Nat → List Rw} {l : List Rw} (h : Rel ls l) (i : Nat) : UQ (ls i) := (h.once i).uq
theorem kix_none_iff {kp ks kd ka kb : Int} {l : List Rw} : kix kp ks kd ka kb l = none ↔ ∀ r ∈ l, isK kp ks kd ka kb r = false := by
  unfold kix
  rw [List.findIdx?_eq_none_iff]
theorem Rel.kxe {ls : Nat → List Rw} {l : List Rw} (h : Rel ls l) (p s d a b : Int) : kx p s d a b ls = none ↔ kix p s d (kyp p a) b l = none := by
  unfold kx
  rw [kix_none_iff, kix_none_iff]
  constructor
  · intro hn r hr
    cases hb : isK p s d (kyp p a) b r with
    | false => rfl
    | true =>
      have := (h.mem r).1 hr
      rw [bkr_key hb] at this
      rw [hn r this] at hb
      cases hb
  · intro hn r hr
    cases hb : isK p s d (kyp p a) b r with
    | false => rfl
    | true =>
      have hm : r ∈ ls (bkr r) := by rw [bkr_key hb]; exact hr
      rw [hn r ((h.mem r).2 hm)] at hb
      cases hb
theorem Rel.empty : Rel (fun _ => []) [] := ⟨fun _ _ h => (by cases h), fun _ => List.Pairwise.nil, List.Pairwise.nil, fun r => by simp⟩
theorem Rel.map {ls : Nat → List Rw} {l : List Rw} (h : Rel ls l) (F : Rw → Rw) (hF : ∀ r, rky (F r) = rky r) : Rel (fun j => (ls j).map F) (l.map F) := by
  have hb : ∀ r, bkr (F r) = bkr r := fun r => by have := hF r; unfold rky at this; simp at this; unfold bkr; rw [this.1, this.2.1, this.2.2.1, this.2.2.2.1, this.2.2.2.2]
  have hu : ∀ m : List Rw, UP m → UP (m.map F) := fun m hm => by
    unfold UP at *
    rw [List.pairwise_map]
    exact hm.imp (fun {x y} hxy => by rw [hF, hF]; exact hxy)
  refine ⟨fun i r hr => ?_, fun i => hu _ (h.once i), hu _ h.up, fun r => ?_⟩
  · obtain ⟨q, hq, rfl⟩ := List.mem_map.1 hr
    rw [hb]
    exact h.place i q hq
  · simp only [List.mem_map]
    constructor
    · rintro ⟨q, hq, rfl⟩
      exact ⟨q, by rw [hb]; exact (h.mem q).1 hq, rfl⟩
    · rintro ⟨q, hq, rfl⟩
      exact ⟨q, (h.mem q).2 (by rw [hb] at hq; exact hq), rfl⟩
theorem Rel.filter {ls : Nat → List Rw} {l : List Rw} (h : Rel ls l) (G : Rw → Bool) : Rel (fun j => (ls j).filter G) (l.filter G) := by
  refine ⟨fun i r hr => h.place i r (List.mem_filter.1 hr).1, fun i => List.Pairwise.filter _ (h.once i), List.Pairwise.filter _ h.up, fun r => ?_⟩
  simp only [List.mem_filter]
  rw [h.mem r]
theorem Rel.add {ls : Nat → List Rw} {l : List Rw} (h : Rel ls l) (x : Rw) (hn : ∀ r ∈ l, rky r ≠ rky x) : Rel (addL ls (bkr x) x) (l ++ [x]) := by
  have hns : ∀ r ∈ ls (bkr x), rky r ≠ rky x := fun r hr => hn r ((h.mem r).2 (by rw [h.place _ r hr]; exact hr))
  have hsnoc : ∀ m : List Rw, UP m → (∀ r ∈ m, rky r ≠ rky x) → UP (m ++ [x]) := fun m hm hx => by
    unfold UP at *
    rw [List.pairwise_append]
    exact ⟨hm, by simp, fun r hr q hq => by rw [show q = x from by simpa using hq]; exact hx r hr⟩
  unfold addL
  refine ⟨fun i r hr => ?_, fun i => ?_, hsnoc _ h.up hn, fun r => ?_⟩
  · split at hr
    · rename_i hi
      rcases List.mem_append.1 hr with h1 | h1
      · rw [hi]; exact h.place _ r h1
      · rw [hi, show r = x from by simpa using h1]
    · exact h.place i r hr
  · split
    · exact hsnoc _ (h.once _) hns
    · exact h.once i
  · rw [List.mem_append, h.mem r]
    split
    · rename_i hi
      rw [List.mem_append, hi]
    · rename_i hi
      constructor
      · rintro (h1 | h1)
        · exact h1
        · exact absurd (by rw [show r = x from by simpa using h1]) hi
      · exact .inl
theorem kix_at {kp ks kd ka kb : Int} {l : List Rw} {k : Nat} (h : kix kp ks kd ka kb l = some k) : ∃ hk : k < l.length, isK kp ks kd ka kb l[k] = true := by
  unfold kix at h
  rw [List.findIdx?_eq_some_iff_getElem] at h
  exact ⟨h.1, h.2.1⟩
theorem modify_map {l : List Rw} {kp ks kd ka kb : Int} {k : Nat} (hu : UQ l) (hk : kix kp ks kd ka kb l = some k) (f : Rw → Rw) : l.modify k f = l.map (fun r => if isK kp ks kd ka kb r = true then f r else r) := by
  obtain ⟨hkl, hkt⟩ := kix_at hk
  apply List.ext_getElem
  · simp
  · intro j h1 h2
    rw [List.getElem_modify, List.getElem_map]
    by_cases hj : k = j
    · subst hj
      rw [if_pos rfl, if_pos hkt]
    · rw [if_neg hj, if_neg (by rw [hu.others hk j (by simpa using h1) (fun e => hj e.symm)]; simp)]
theorem erase_filter {l : List Rw} {kp ks kd ka kb : Int} {k : Nat} (hu : UQ l) (hk : kix kp ks kd ka kb l = some k) : l.eraseIdx k = l.filter (fun r => !isK kp ks kd ka kb r) := by
  obtain ⟨hkl, hkt⟩ := kix_at hk
  have ho := hu.others hk
  have e : l = l.take k ++ (l[k] :: l.drop (k + 1)) := by rw [← List.drop_eq_getElem_cons hkl, List.take_append_drop]
  have f1 : (l.take k).filter (fun r => !isK kp ks kd ka kb r) = l.take k := List.filter_eq_self.2 fun r hr => by
    obtain ⟨j, hj, rfl⟩ := List.getElem_of_mem hr
    rw [List.getElem_take, ho j (by simp at hj; omega) (by simp at hj; omega)]
    rfl
  have f2 : (l.drop (k + 1)).filter (fun r => !isK kp ks kd ka kb r) = l.drop (k + 1) := List.filter_eq_self.2 fun r hr => by
    obtain ⟨j, hj, rfl⟩ := List.getElem_of_mem hr
    rw [List.getElem_drop, ho (k + 1 + j) (by simp at hj; omega) (by omega)]
    rfl
  rw [List.eraseIdx_eq_take_drop_succ]
  conv => rhs; rw [e]
  rw [List.filter_append, List.filter_cons, f1, f2, if_neg (by rw [hkt]; simp)]
theorem Rel.other {ls : Nat → List Rw} {l : List Rw} (h : Rel ls l) {p s d a b : Int} {j : Nat} (hj : j ≠ bki p s d a b) : ∀ r ∈ ls j, isK p s d (kyp p a) b r = false := fun r hr => by
  cases hb : isK p s d (kyp p a) b r with
  | false => rfl
  | true => exact absurd ((h.place j r hr).symm.trans (bkr_key hb)) hj
theorem Rel.moved {ls : Nat → List Rw} {l : List Rw} (h : Rel ls l) {p s d a b : Int} {k k' : Nat} (hk : kx p s d a b ls = some k) (hk' : kix p s d (kyp p a) b l = some k') (x y : Int) : Rel (mvL ls (bki p s d a b) k x y) (l.modify k' (fun r => { r with till := x, turn := y })) := by
  have e : mvL ls (bki p s d a b) k x y = fun j => (ls j).map (fun r => if isK p s d (kyp p a) b r = true then { r with till := x, turn := y } else r) := by
    funext j
    unfold mvL
    split
    · rename_i hj
      subst hj
      exact modify_map (h.uq _) hk _
    · rename_i hj
      have : ∀ r ∈ ls j, (fun r : Rw => if isK p s d (kyp p a) b r = true then { r with till := x, turn := y } else r) r = r := fun r hr => by
        simp only
        rw [h.other hj r hr]
        simp
      rw [List.map_congr_left this]
      simp
  rw [e, modify_map h.up.uq hk' _]
  exact h.map _ (fun r => by unfold rky; split <;> rfl)
theorem Rel.dropped {ls : Nat → List Rw} {l : List Rw} (h : Rel ls l) {p s d a b : Int} {k k' : Nat} (hk : kx p s d a b ls = some k) (hk' : kix p s d (kyp p a) b l = some k') : Rel (dpL ls (bki p s d a b) k) (l.eraseIdx k') := by
  have e : dpL ls (bki p s d a b) k = fun j => (ls j).filter (fun r => !isK p s d (kyp p a) b r) := by
    funext j
    unfold dpL
    split
    · rename_i hj
      subst hj
      exact erase_filter (h.uq _) hk
    · rename_i hj
      exact (List.filter_eq_self.2 fun r hr => by rw [h.other hj r hr]; rfl).symm
  rw [e, erase_filter h.up.uq hk']
  exact h.filter _
end Go.Proofs.Ytahphjindjlcpaa

/- A deed on both tables. -/
namespace Go.Proofs.Ytahphjindjlcpaa
open Go.RowKit Go.Shelf
set_option maxRecDepth 100000
set_option linter.unusedVariables false
set_option linter.unusedSimpArgs false

/-- Blocks of other types than the document's table's stay. -/
def KE (w w' : World) : Prop := ∀ (k : Nat) (cur : Array Value) (t : TypeId) (f : Nat × Nat), w.heap[k]? = some (.cells cur t f) → t ≠ 69 → t ≠ 86 → w'.heap[k]? = some (.cells cur t f)
/-- Blocks of other types than both tables' stay. -/
def KD (w w' : World) : Prop := ∀ (k : Nat) (cur : Array Value) (t : TypeId) (f : Nat × Nat), w.heap[k]? = some (.cells cur t f) → t ≠ 62 → t ≠ 65 → t ≠ 69 → t ≠ 86 → w'.heap[k]? = some (.cells cur t f)
theorem KD.pre : Pre KD := ⟨fun _ _ _ _ _ h _ _ _ _ => h, fun _ _ _ h1 h2 k cur t f h a b c d => h2 k cur t f (h1 k cur t f h a b c d) a b c d⟩
theorem KD.refl (w : World) : KD w w := KD.pre.1 w
theorem KD.of_kt {w w' : World} (h : KT w w') : KD w w' := fun k cur t f hk a b _ _ => h k cur t f hk a b
theorem KD.of_ke {w w' : World} (h : KE w w') : KD w w' := fun k cur t f hk _ _ c d => h k cur t f hk c d
theorem KD.of_later {w w' : World} (h : Later w w') : KD w w' := fun k cur t f hk _ _ _ _ => later_keep h hk
theorem KE.of_later {w w' : World} (h : Later w w') : KE w w' := fun k cur t f hk _ _ => later_keep h hk
theorem DT.ke {base : Nat} {w w' : World} {b : Nat} {v : Value} {lim sq : Int} {l : List Rw} (h : DT base w b v lim sq l) (k : But (fun g => g = b ∨ v.ownBlock = some g) w w') : KE w w' := fun x cur t f hx h1 h2 => by
  refine (k.block x (Array.getElem?_eq_some_iff.1 hx).1 (fun e => ?_)).trans hx
  rcases e with rfl | e
  · rw [h.2.1] at hx
    cases hx
    exact h1 rfl
  · obtain ⟨_, ⟨e2, _⟩ | ⟨g, cap, cu, hv, hg, hh, r⟩⟩ := h.2.2
    · rw [e2] at e; cases e
    · rw [hv] at e
      cases e
      rw [hh] at hx
      cases hx
      exact h2 rfl
theorem DT.kt {base : Nat} {w w' : World} {b : Nat} {v : Value} {lim sq : Int} {l : List Rw} (h : DT base w b v lim sq l) (k : KT w w') : DT base w' b v lim sq l := by
  refine ⟨h.1, k _ _ _ _ h.2.1 (by decide) (by decide), ?_⟩
  obtain ⟨q1, q2 | ⟨g, cap, cu, hv, hg, hh, r⟩⟩ := h.2.2
  · exact ⟨q1, .inl q2⟩
  · exact ⟨q1, .inr ⟨g, cap, cu, hv, hg, k _ _ _ _ hh (by decide) (by decide), r⟩⟩
theorem TB.ke {base bt : Nat} {w w' : World} {lim cnt trn : Int} {ls : Nat → List Rw} (h : TB base w bt lim cnt trn ls) (k : KE w w') : TB base w' bt lim cnt trn ls := by
  obtain ⟨vs, h1, h2, h3, h4, h5⟩ := h
  refine ⟨vs, h1, h2, k _ _ _ _ h3 (by decide) (by decide), fun i hi => ?_, h5⟩
  obtain ⟨q1, q2 | ⟨g, cap, cu, hv, hg, hh, r⟩⟩ := h4 i hi
  · exact ⟨q1, .inl q2⟩
  · exact ⟨q1, .inr ⟨g, cap, cu, hv, hg, k _ _ _ _ hh (by decide) (by decide), r⟩⟩
theorem DT.below {base : Nat} {w w' : World} {b : Nat} {v : Value} {lim sq : Int} {l : List Rw} (h : DT base w b v lim sq l) (hb : base ≤ w.heap.size) (k : But (fun g => g = b ∨ v.ownBlock = some g) w w') : Below base w w' := k.below hb (fun x hx e => by rcases e with rfl | e; (· have := h.1; omega); (· have := (h.lt e).1; omega))

/-- As many rows as the limit lets in, each with a time that may be. -/
def Wfl (lim : Int) (l : List Rw) : Prop := (l.length : Int) ≤ lim ∧ ∀ r ∈ l, 0 ≤ r.till ∧ r.till ≤ 1099511627776
/-- No turn stands twice, and none is above the last. -/
def Wft (trn : Int) (l : List Rw) : Prop := (∀ r ∈ l, r.turn ≤ trn) ∧ l.Pairwise (fun x y => x.turn ≠ y.turn)
theorem Wft.add {trn : Int} {l : List Rw} (h : Wft trn l) {r : Rw} (hr : r.turn = trn + 1) : Wft (trn + 1) (l ++ [r]) := by
  refine ⟨fun x hx => ?_, List.pairwise_append.2 ⟨h.2, by simp, fun x hx y hy => ?_⟩⟩
  · rcases List.mem_append.1 hx with hx | hx
    · have := h.1 x hx; omega
    · obtain rfl : x = r := by simpa using hx
      omega
  · obtain rfl : y = r := by simpa using hy
    have := h.1 x hx
    omega
theorem Wft.move {trn : Int} {l : List Rw} (h : Wft trn l) (k : Nat) (t : Int) : Wft (trn + 1) (l.modify k (fun r => { r with till := t, turn := trn + 1 })) := by
  refine ⟨fun x hx => ?_, ?_⟩
  · obtain ⟨i, hi, rfl⟩ := List.getElem_of_mem hx
    rw [List.getElem_modify]
    have := h.1 (l[i]'(by simpa using hi)) (List.getElem_mem _)
    split
    · show trn + 1 ≤ trn + 1
      omega
    · omega
  · rw [List.pairwise_iff_getElem]
    intro i j hi hj hij
    have hi' : i < l.length := by simpa using hi
    have hj' : j < l.length := by simpa using hj
    have h1 := h.1 l[i] (List.getElem_mem _)
    have h2 := h.1 l[j] (List.getElem_mem _)
    have h3 := List.pairwise_iff_getElem.1 h.2 i j hi' hj' hij
    rw [List.getElem_modify, List.getElem_modify]
    split
    · split
      · omega
      · show trn + 1 ≠ l[j].turn
        omega
    · split
      · show l[i].turn ≠ trn + 1
        omega
      · exact h3
theorem Wft.erase {trn : Int} {l : List Rw} (h : Wft trn l) (k : Nat) : Wft trn (l.eraseIdx k) := ⟨fun r hr => h.1 r (List.mem_of_mem_eraseIdx hr), h.2.sublist (List.eraseIdx_sublist l k)⟩
theorem Wft.nil (trn : Int) : Wft trn [] := ⟨fun r hr => (by cases hr), List.Pairwise.nil⟩
/-- Each row stands under its own key, and its key's numbers are of their kinds. -/
def Wfk (l : List Rw) : Prop := ∀ r ∈ l, kyp r.p r.a = r.a ∧ (0 ≤ r.s ∧ r.s ≤ 4294967295) ∧ (0 ≤ r.d ∧ r.d ≤ 4294967295) ∧ (0 ≤ r.a ∧ r.a ≤ 65535) ∧ (0 ≤ r.b ∧ r.b ≤ 65535)
theorem kyp_twice (p a : Int) : kyp p (kyp p a) = kyp p a := by unfold kyp; split <;> rfl
theorem kyp_bd {p a : Int} (h : 0 ≤ a ∧ a ≤ 65535) : 0 ≤ kyp p a ∧ kyp p a ≤ 65535 := by unfold kyp; split <;> omega
theorem Wfk.modify {l : List Rw} (h : Wfk l) (k : Nat) (x y : Int) : Wfk (l.modify k (fun r => { r with till := x, turn := y })) := fun r hr => by
  obtain ⟨i, hi, rfl⟩ := List.getElem_of_mem hr
  have := h (l[i]'(by simpa using hi)) (List.getElem_mem _)
  rw [List.getElem_modify]
  split <;> exact this
/-- Both tables, which hold the same. -/
def PT (base : Nat) (W : World) (bt bd : Nat) (lim : Int) (n : Nat) : Prop := ∃ ls v l trn, TB base W bt lim (l.length : Nat) trn ls ∧ DT base W bd v lim trn l ∧ Rel ls l ∧ (∀ i, (ls i).length ≤ n) ∧ l.length ≤ n ∧ 0 ≤ trn ∧ trn ≤ n ∧ Wfl lim l ∧ Wft trn l ∧ Wfk l
theorem PT.later {base : Nat} {A B : World} {bt bd : Nat} {lim : Int} {n : Nat} (h : PT base A bt bd lim n) (k : Later A B) : PT base B bt bd lim n := by
  obtain ⟨ls, v, l, trn, h1, h2, h3⟩ := h
  exact ⟨ls, v, l, trn, h1.later k, h2.later k, h3⟩
theorem PT.mono {base : Nat} {A : World} {bt bd : Nat} {lim : Int} {n m : Nat} (h : PT base A bt bd lim n) (k : n ≤ m) : PT base A bt bd lim m := by
  obtain ⟨ls, v, l, trn, h1, h2, h3, h4, h5, h6, h7, h8⟩ := h
  exact ⟨ls, v, l, trn, h1, h2, h3, fun i => Nat.le_trans (h4 i) k, Nat.le_trans h5 k, h6, by omega, h8⟩
theorem key_neq {p s d a b : Int} {r : Rw} (h : isK p s d (kyp p a) b r = false) (id till sq : Int) : rky r ≠ rky ⟨p, s, d, kyp p a, b, id, till, sq⟩ := fun e => by
  have : isK p s d (kyp p a) b r = true := isK_iff.2 (by rw [e]; rfl)
  rw [h] at this
  cases this
theorem pe_eq {ls : Nat → List Rw} {l : List Rw} (h : Rel ls l) (lim p s d a b till : Int) : pute lim (l.length : Nat) ls p s d a b till = rpe lim l p s d a b till := by
  unfold pute rpe
  by_cases hk : kx p s d a b ls = none
  · rw [hk, (h.kxe p s d a b).1 hk]
  · have hk2 : kix p s d (kyp p a) b l ≠ none := fun e => hk ((h.kxe p s d a b).2 e)
    rw [if_pos hk, if_pos hk2]
theorem me_eq {ls : Nat → List Rw} {l : List Rw} (h : Rel ls l) (p s d a b till : Int) : move ls p s d a b till = rme l p s d a b till := by
  unfold move rme
  by_cases hk : kx p s d a b ls = none
  · rw [if_pos hk, if_pos ((h.kxe p s d a b).1 hk)]
  · rw [if_neg hk, if_neg (fun e => hk ((h.kxe p s d a b).2 e))]
theorem de_eq {ls : Nat → List Rw} {l : List Rw} (h : Rel ls l) (p s d a b : Int) : dpe ls p s d a b = rde l p s d a b := by
  unfold dpe rde
  by_cases hk : kx p s d a b ls = none
  · rw [if_pos hk, if_pos ((h.kxe p s d a b).1 hk)]
  · rw [if_neg hk, if_neg (fun e => hk ((h.kxe p s d a b).2 e))]
end Go.Proofs.Ytahphjindjlcpaa

/- A deed on both tables, call by call. -/
namespace Go.Proofs.Ytahphjindjlcpaa
open Go.RowKit Go.Shelf
set_option maxRecDepth 100000
set_option linter.unusedVariables false
set_option linter.unusedSimpArgs false

theorem TBv.below_but {base bt : Nat} {w w' : World} {lim cnt trn : Int} {vs : List Value} {ls : Nat → List Rw} (h : TBv base w bt lim cnt trn vs ls) (i : Nat) (hi : i < 256) (hb : base ≤ w.heap.size) (k : But (fun g => g = bt ∨ (vs[i]?.getD undef).ownBlock = some g) w w') : Below base w w' := k.below hb (fun x hx e => by
  rcases e with e | e
  · have := h.2.1; omega
  · have := ((h.2.2.2.1 i hi).lt x e).1; omega)

theorem addL_len {ls : Nat → List Rw} {i n : Nat} {r : Rw} (h : ∀ j, (ls j).length ≤ n) : ∀ j, (addL ls i r j).length ≤ n + 1 := fun j => by
  unfold addL
  have := h j
  have := h i
  split <;> simp <;> omega
theorem mvL_len {ls : Nat → List Rw} {i k n : Nat} {x y : Int} (h : ∀ j, (ls j).length ≤ n) : ∀ j, (mvL ls i k x y j).length ≤ n + 1 := fun j => by
  unfold mvL
  have := h j
  have := h i
  split <;> simp <;> omega
theorem dpL_len {ls : Nat → List Rw} {i k n : Nat} (h : ∀ j, (ls j).length ≤ n) : ∀ j, (dpL ls i k j).length ≤ n + 1 := fun j => by
  unfold dpL
  have := h j
  have := h i
  split
  · rw [List.length_eraseIdx]; split <;> omega
  · omega

def Rg5 (p s d a b : Int) : Prop := (0 ≤ s ∧ s ≤ 4294967295) ∧ (0 ≤ d ∧ d ≤ 4294967295) ∧ (0 ≤ a ∧ a ≤ 65535) ∧ (0 ≤ b ∧ b ≤ 65535)

theorem pt_put (base bt bd : Nat) (lim : Int) (n : Nat) (p s d a b id till : Int) (w : World) (h : PT base w bt bd lim n) (hn : n ≤ 1000) (hlm : lim ≤ 4096) (hg : Rg5 p s d a b) (hbs : base ≤ w.heap.size) :
    Calls Try.prog 14 #[.pointer (some ⟨bt, 0, none⟩), .agg #[.int .u8 p, .int .u32 s, .int .u32 d, .int .u16 a, .int .u16 b], .int .i64 id, .int .i64 till] w fun e w1 => ∃ x, e = .returned (.int .i64 x) ∧ KD w w1 ∧ Below base w w1 ∧
      Calls Try.prog 28 #[.pointer (some ⟨bd, 0, none⟩), .agg #[.int .u8 p, .int .u32 s, .int .u32 d, .int .u16 a, .int .u16 b], .int .i64 id, .int .i64 till] w1 fun e w2 => e = .returned (.int .i64 x) ∧ KD w1 w2 ∧ Below base w1 w2 ∧ PT base w2 bt bd lim (n + 1) := by
  obtain ⟨ls, v, l, trn, ⟨vs, hT⟩, hD, hR, hl1, hl2, ht0, ht1, hwf, hwt, hwk⟩ := h
  refine (put_any base bt lim l.length trn vs ls p s d a b id till w hT hg.1 hg.2.1 hg.2.2.1 hg.2.2.2 hbs (by omega) (by omega) hlm (by have := hl1 (bki p s d a b); omega)).mono ?_
  rintro e w1 ⟨rfl, h1⟩
  rw [pe_eq hR] at h1 ⊢
  generalize hx : rpe lim l p s d a b till = x at h1 ⊢
  refine ⟨x, rfl, ?_⟩
  rcases h1 with ⟨h0, hT1, hb1⟩ | ⟨h0, hT1, hb1⟩
  · refine ⟨.of_later hb1, hb1.mono hbs, ?_⟩
    have hs1 := hb1.size
    have hD1 := hD.later hb1
    refine (rput_any base bd v lim trn l p s d a b id till w1 hD1 (by omega) (by omega) (by omega)).mono ?_
    rintro e w2 ⟨rfl, h2⟩
    rw [hx] at h2
    refine ⟨by rw [hx], ?_⟩
    rcases h2 with ⟨_, v', hD2, hbt, _⟩ | ⟨h3, _⟩
    · refine ⟨.of_ke (hD1.ke hbt), hD1.below (by omega) hbt, ls, v', l, trn, TB.ke ⟨vs, hT1⟩ (hD1.ke hbt), hD2, hR, fun i => by have := hl1 i; omega, by omega, ht0, by omega, hwf, hwt, hwk⟩
    · exact absurd h3 h0
  · have hk1 : KT w w1 := KT.of_but hb1 (hT.typed _ (bki_lt p s d a b))
    have hbl := hT.below_but _ (bki_lt p s d a b) hbs hb1
    refine ⟨.of_kt hk1, hbl, ?_⟩
    have hs1 := hbl.size
    have hD1 := hD.kt hk1
    refine (rput_any base bd v lim trn l p s d a b id till w1 hD1 (by omega) (by omega) (by omega)).mono ?_
    rintro e w2 ⟨rfl, h2⟩
    rw [hx] at h2
    refine ⟨by rw [hx], ?_⟩
    rcases h2 with ⟨h3, _⟩ | ⟨_, v', hD2, hbt, _⟩
    · exact absurd h0 h3
    · have hkn : kix p s d (kyp p a) b l = none := by
        subst h0
        unfold rpe at hx
        by_cases hk : kix p s d (kyp p a) b l = none
        · exact hk
        · rw [if_pos hk] at hx
          split at hx <;> omega
      have hwa : Wfl lim (l ++ [⟨p, s, d, kyp p a, b, id, till, trn + 1⟩]) := by
        subst h0
        unfold rpe at hx
        refine ⟨?_, fun r hr => ?_⟩
        · rw [List.length_append, List.length_singleton]
          split at hx
          · omega
          · split at hx
            · omega
            · split at hx <;> omega
        · rcases List.mem_append.1 hr with h | h
          · exact hwf.2 r h
          · obtain rfl : r = _ := by simpa using h
            split at hx
            · omega
            · rename_i hmb
              have : mayb till = true := by simpa using hmb
              unfold mayb at this
              simpa using this
      have hadd := hR.add ⟨p, s, d, kyp p a, b, id, till, trn + 1⟩ (fun r hr => key_neq (kix_none_iff.1 hkn r hr) id till (trn + 1))
      have hbk : bkr ⟨p, s, d, kyp p a, b, id, till, trn + 1⟩ = bki p s d a b := bkr_key (isK_iff.2 rfl)
      rw [hbk] at hadd
      refine ⟨.of_ke (hD1.ke hbt), hD1.below (by omega) hbt, _, v', _, trn + 1, ?_, hD2, hadd, addL_len hl1, by simp; omega, by omega, by omega, hwa, hwt.add rfl, fun r hr => by
        rcases List.mem_append.1 hr with hr | hr
        · exact hwk r hr
        · obtain rfl : r = _ := by simpa using hr
          exact ⟨kyp_twice p a, hg.1, hg.2.1, kyp_bd hg.2.2.1, hg.2.2.2⟩⟩
      have := TB.ke hT1 (hD1.ke hbt)
      simp only [List.length_append, List.length_cons, List.length_nil]
      exact this

theorem pt_move (base bt bd : Nat) (lim : Int) (n : Nat) (p s d a b till : Int) (w : World) (h : PT base w bt bd lim n) (hn : n ≤ 1000) (hg : Rg5 p s d a b) (hbs : base ≤ w.heap.size) :
    Calls Try.prog 16 #[.pointer (some ⟨bt, 0, none⟩), .agg #[.int .u8 p, .int .u32 s, .int .u32 d, .int .u16 a, .int .u16 b], .int .i64 till] w fun e w1 => ∃ x, e = .returned (.int .i64 x) ∧ KD w w1 ∧ Below base w w1 ∧
      Calls Try.prog 29 #[.pointer (some ⟨bd, 0, none⟩), .agg #[.int .u8 p, .int .u32 s, .int .u32 d, .int .u16 a, .int .u16 b], .int .i64 till] w1 fun e w2 => e = .returned (.int .i64 x) ∧ KD w1 w2 ∧ Below base w1 w2 ∧ PT base w2 bt bd lim (n + 1) := by
  obtain ⟨ls, v, l, trn, hT, hD, hR, hl1, hl2, ht0, ht1, hwf, hwt, hwk⟩ := h
  refine (move_any base bt lim l.length trn ls p s d a b till w hT hg.1 hg.2.1 hg.2.2.1 hg.2.2.2 hbs (by omega)).mono ?_
  rintro e w1 ⟨rfl, h1⟩
  rw [me_eq hR] at h1 ⊢
  generalize hx : rme l p s d a b till = x at h1 ⊢
  refine ⟨x, rfl, ?_⟩
  rcases h1 with ⟨h0, hT1, hb1⟩ | ⟨h0, k, g, hkx, hbg, hT1, hb1, hk1⟩
  · refine ⟨.of_later hb1, hb1.mono hbs, ?_⟩
    have hs1 := hb1.size
    have hD1 := hD.later hb1
    refine (rmove_any base bd v lim trn l p s d a b till w1 hD1 (by omega) (by omega) (by omega)).mono ?_
    rintro e w2 ⟨rfl, h2⟩
    rw [hx] at h2
    refine ⟨by rw [hx], ?_⟩
    rcases h2 with ⟨_, v', hD2, hbt, _⟩ | ⟨h3, _⟩
    · refine ⟨.of_ke (hD1.ke hbt), hD1.below (by omega) hbt, ls, v', l, trn, TB.ke hT1 (hD1.ke hbt), hD2, hR, fun i => by have := hl1 i; omega, by omega, ht0, by omega, hwf, hwt, hwk⟩
    · exact absurd h3 h0
  · have hbl : Below base w w1 := hb1.below hbs (fun x hx e => by rcases e with rfl | rfl; (· obtain ⟨vs, hv⟩ := hT; have := hv.2.1; omega); (· omega))
    refine ⟨.of_kt hk1, hbl, ?_⟩
    have hs1 := hbl.size
    have hD1 := hD.kt hk1
    refine (rmove_any base bd v lim trn l p s d a b till w1 hD1 (by omega) (by omega) (by omega)).mono ?_
    rintro e w2 ⟨rfl, h2⟩
    rw [hx] at h2
    refine ⟨by rw [hx], ?_⟩
    rcases h2 with ⟨h3, _⟩ | ⟨_, k', hk', v', hD2, hbt, _⟩
    · exact absurd h0 h3
    · have hwa : Wfl lim (l.modify k' (fun r => { r with till := till, turn := trn + 1 })) := by
        subst h0
        unfold rme at hx
        refine ⟨by rw [List.length_modify]; exact hwf.1, fun r hr => ?_⟩
        rw [modify_map hR.up.uq hk'] at hr
        obtain ⟨r0, hr0, rfl⟩ := List.mem_map.1 hr
        split
        · split at hx
          · omega
          · rename_i hmb
            have : mayb till = true := by simpa using hmb
            unfold mayb at this
            simpa using this
        · exact hwf.2 r0 hr0
      refine ⟨.of_ke (hD1.ke hbt), hD1.below (by omega) hbt, _, v', _, trn + 1, ?_, hD2, hR.moved hkx hk' till (trn + 1), mvL_len hl1, by rw [List.length_modify]; omega, by omega, by omega, hwa, hwt.move k' till, hwk.modify k' till (trn + 1)⟩
      rw [List.length_modify]
      exact TB.ke hT1 (hD1.ke hbt)

theorem pt_drop (base bt bd : Nat) (lim : Int) (n : Nat) (p s d a b : Int) (w : World) (h : PT base w bt bd lim n) (hn : n ≤ 1000) (hg : Rg5 p s d a b) (hbs : base ≤ w.heap.size) :
    Calls Try.prog 17 #[.pointer (some ⟨bt, 0, none⟩), .agg #[.int .u8 p, .int .u32 s, .int .u32 d, .int .u16 a, .int .u16 b]] w fun e w1 => ∃ x, e = .returned (.int .i64 x) ∧ KD w w1 ∧ Below base w w1 ∧
      Calls Try.prog 30 #[.pointer (some ⟨bd, 0, none⟩), .agg #[.int .u8 p, .int .u32 s, .int .u32 d, .int .u16 a, .int .u16 b]] w1 fun e w2 => e = .returned (.int .i64 x) ∧ KD w1 w2 ∧ Below base w1 w2 ∧ PT base w2 bt bd lim (n + 1) := by
  obtain ⟨ls, v, l, trn, hT, hD, hR, hl1, hl2, ht0, ht1, hwf, hwt, hwk⟩ := h
  refine (tdrop_any base bt lim l.length trn ls p s d a b w hT hR.uq hg.1 hg.2.1 hg.2.2.1 hg.2.2.2 hbs (by omega)).mono ?_
  rintro e w1 ⟨rfl, ⟨hbl, hk1⟩, h1⟩
  rw [de_eq hR]
  refine ⟨_, rfl, .of_kt hk1, hbl, ?_⟩
  have hs1 := hbl.size
  have hD1 := hD.kt hk1
  refine (rtdrop_any base bd v lim trn l p s d a b w1 hD1 (by omega) (by omega)).mono ?_
  rintro e w2 ⟨rfl, h2⟩
  refine ⟨rfl, ?_⟩
  have hke := hR.kxe p s d a b
  rcases h1 with ⟨hk, hT1⟩ | ⟨k, hk, hT1⟩
  · rcases h2 with ⟨_, v', hD2, hbt, _⟩ | ⟨k', hk', _⟩
    · refine ⟨.of_ke (hD1.ke hbt), hD1.below (by omega) hbt, ls, v', l, trn, TB.ke hT1 (hD1.ke hbt), hD2, hR, fun i => by have := hl1 i; omega, by omega, ht0, by omega, hwf, hwt, hwk⟩
    · rw [hke.1 hk] at hk'; cases hk'
  · rcases h2 with ⟨hk', _⟩ | ⟨k', hk', v', hD2, hbt, _⟩
    · rw [hke.2 hk'] at hk; cases hk
    · obtain ⟨hkl, _⟩ := kix_at hk'
      have hle : (l.eraseIdx k').length = l.length - 1 := by rw [List.length_eraseIdx, if_pos hkl]
      refine ⟨.of_ke (hD1.ke hbt), hD1.below (by omega) hbt, _, v', _, trn, ?_, hD2, hR.dropped hk hk', dpL_len hl1, by omega, ht0, by omega, ⟨by have := hwf.1; omega, fun r hr => hwf.2 r (List.mem_of_mem_eraseIdx hr)⟩, hwt.erase k', fun r hr => hwk r (List.mem_of_mem_eraseIdx hr)⟩
      have := TB.ke hT1 (hD1.ke hbt)
      rw [hle]
      rw [show ((l.length - 1 : Nat) : Int) = (l.length : Int) - 1 from by omega]
      exact this
end Go.Proofs.Ytahphjindjlcpaa
