/- Deeds on both sides' rules. -/
import Derived.Test.YtgjemeibaghfaaaYR
import Derived.Test.YtgjemeibaghfaaaOpB
namespace Go.Proofs.Ytgjemeibaghfaaa
open Go.RowKit Go.Shelf
set_option maxRecDepth 100000
set_option linter.unusedVariables false
set_option linter.unusedSimpArgs false

/-- The program's rules and the document's, which hold the same. -/
def PQ (base : Nat) (W : World) (a b : Nat) (l : List Ru) : Prop := ∃ va vb, RL 57 base W a va l ∧ RL 67 base W b vb l ∧ ∀ g, va.ownBlock = some g → vb.ownBlock ≠ some g
theorem PQ.later {base : Nat} {A B : World} {a b : Nat} {l : List Ru} (h : PQ base A a b l) (k : Later A B) : PQ base B a b l := by
  obtain ⟨va, vb, h1, h2, h3⟩ := h
  exact ⟨va, vb, h1.later k, h2.later k, h3⟩
theorem PQ.below {base n : Nat} {A B : World} {a b : Nat} {l : List Ru} (h : PQ base A a b l) (k : Below n A B) (hn : A.heap.size ≤ n) : PQ base B a b l := h.later (k.mono hn)
def doE (l : List Ru) (d : Dd) : Int := if d.drop then drE l d.at0 else adE l d.r
def doL (l : List Ru) (d : Dd) : List Ru := if d.drop then drL l d.at0 else adL l d.r
theorem okL_do {l : List Ru} {d : Dd} (h : okL l) (hd : wfD d) : okL (doL l d) := by
  unfold doL
  split
  · exact okL_drop h
  · exact okL_add h hd.1
/-- Behind a change of the program's side and one of the document's. -/
theorem PQ.two {base : Nat} {w W1 W2 : World} {a b : Nat} {va vb : Value} {l l' : List Ru} (h1 : RL 57 base w a va l) (h2 : RL 67 base w b vb l) (h3 : ∀ g, va.ownBlock = some g → vb.ownBlock ≠ some g)
    (q1 : RLq 57 base w W1 a va l') (q2 : RLq 67 base W1 W2 b vb l') : PQ base W2 a b l' ∧ But (fun g => g = a ∨ g = b ∨ va.ownBlock = some g ∨ vb.ownBlock = some g) w W2 := by
  obtain ⟨va', r1, b1, f1⟩ := q1
  obtain ⟨vb', r2, b2, f2⟩ := q2
  have hab : a ≠ b := fun e => by
    have e1 := h1.2.1
    rw [e, h2.2.1] at e1
    simp at e1
  have hva : ∀ g, va'.ownBlock = some g → vb.ownBlock ≠ some g := fun g hg e => by
    rcases f1 with f | f
    · rw [f] at hg; exact h3 g hg e
    · have := f g hg
      have := (h2.lt e).2
      omega
  have b1' : But (fun g => g = a ∨ g = b ∨ va.ownBlock = some g ∨ vb.ownBlock = some g) w W1 := ⟨b1.os, b1.tape, b1.output, b1.size, fun k hk he => b1.block k hk (fun e => he (e.imp id (fun e => .inr (.inl e))))⟩
  have b2' : But (fun g => g = a ∨ g = b ∨ va.ownBlock = some g ∨ vb.ownBlock = some g) W1 W2 := ⟨b2.os, b2.tape, b2.output, b2.size, fun k hk he => b2.block k hk (fun e => he (.inr (e.imp id (fun e => .inr e))))⟩
  have h2' : RL 67 base W1 b vb l := h2.but b1 (fun e => by rcases e with e | e; (· exact hab e.symm); (· exact h1.ne h2.2.1 (by decide) e)) (fun g hg e => by rcases e with e | e; (· subst e; exact h2.ne h1.2.1 (by decide) hg); (· exact h3 g e hg))
  have r1' : RL 57 base W2 a va' l' := r1.but b2 (fun e => by rcases e with e | e; (· exact hab e); (· exact h2'.ne r1.2.1 (by decide) e)) (fun g hg e => by rcases e with e | e; (· subst e; exact r1.ne h2'.2.1 (by decide) hg); (· exact hva g hg e))
  refine ⟨⟨va', vb', r1', r2, fun g hg e => ?_⟩, b1'.trans b2'⟩
  rcases f2 with f | f
  · rw [f] at e; exact hva g hg e
  · have := f g e
    have := (r1.lt hg).2
    omega

set_option maxHeartbeats 8000000 in
theorem do9_any (base a b : Nat) (l : List Ru) (d : Dd) (w : World) (hP : PQ base w a b l) (hok : okL l) (hd : wfD d) (hbs : base ≤ w.heap.size) :
    Calls Try.prog 21 #[.pointer (some ⟨a, 0, none⟩), .pointer (some ⟨b, 0, none⟩), .agg (ddc d).toArray] w fun e w' => e = .returned (.bool true) ∧ PQ base w' a b (doL l d) ∧ Below base w w' := by
  obtain ⟨va, vb, hA, hB, hap⟩ := hP
  have lb0 : Later w (w.alloc (.cells (ddc d).toArray 51)) := (Below.refl _ _).alloc (Nat.le_refl _) _
  have c0 := heap_alloc_new w (.cells (ddc d).toArray 51)
  have hxa : w.heap.size ≠ a := fun e => by have := hA.blt; omega
  have hxb : w.heap.size ≠ b := fun e => by have := hB.blt; omega
  have hxva : va.ownBlock ≠ some w.heap.size := fun e => by have := (hA.lt e).2; omega
  have hxvb : vb.ownBlock ≠ some w.heap.size := fun e => by have := (hB.lt e).2; omega
  have hEb : ∀ g, (g = a ∨ g = b ∨ va.ownBlock = some g ∨ vb.ownBlock = some g) → base ≤ g := fun g h => by
    rcases h with rfl | rfl | h | h
    · exact hA.1
    · exact hB.1
    · exact (hA.lt h).1
    · exact (hB.lt h).1
  unfold ddc at *
  have HLO := hide (show ∀ x, x = d.drop → doL l d = (if x then drL l d.at0 else adL l d.r) from fun x hx => by unfold doL; rw [hx])
  go_enter Try.func21, Try.ntmps21
  have k0 := block_cell c0
  cases hdr : d.drop with
  | true =>
    rw [hdr] at k0 c0 lb0
    go_upto_region 2 with fail
    clear k0
    generalize w.alloc _ = w0 at *
    refine anyT_begin (R := But (fun g => g = a ∨ g = b ∨ va.ownBlock = some g ∨ vb.ownBlock = some g)) 10 rfl (by kernel_rfl) ?_
    have ld : Later w0 w0.drew := Later.drew w0
    have lwd := lb0.trans ld
    have cd := later_keep ld c0
    generalize w0.drew = Wd at *
    have hwsz := lwd.size
    have ha : ∀ v1, But (fun g => g = a ∨ g = b ∨ va.ownBlock = some g ∨ vb.ownBlock = some g) Wd v1 → ∀ j, v1.cell? ⟨w.heap.size, j, none⟩ = _ := fun v1 hv => block_cell ((hv.block w.heap.size (Array.getElem?_eq_some_iff.1 cd).1 (fun hE => by rcases hE with e | e | e | e; (· exact hxa e); (· exact hxb e); (· exact hxva e); (· exact hxvb e))).trans cd)
    refine anyT_val (But.pre _) 0 rfl (by kernel_rfl) (by kernel_rfl) (by kernel_rfl) (fun _ _ _ _ h => h) rfl ?_; apply Exists.intro; refine ⟨fun v1 hv1 => ?_, ?_⟩; (· (go_simp; rfl)); simp only [Act.put, List.setIfInBounds_toArray, List.set_cons_zero, List.set_cons_succ]
    refine anyT_val (But.pre _) 1 rfl (by kernel_rfl) (by kernel_rfl) (by kernel_rfl) (fun _ _ _ _ h => h) rfl ?_; apply Exists.intro; refine ⟨fun v1 hv1 => ?_, ?_⟩; (· (go_simp; rfl)); simp only [Act.put, List.setIfInBounds_toArray, List.set_cons_zero, List.set_cons_succ]
    refine anyT_val (But.pre _) 2 rfl (by kernel_rfl) (by kernel_rfl) (by kernel_rfl) (fun _ _ _ _ h => h) rfl ?_; apply Exists.intro; refine ⟨fun v1 hv1 => ?_, ?_⟩; (· (go_simp; rfl)); simp only [Act.put, List.setIfInBounds_toArray, List.set_cons_zero, List.set_cons_succ]
    refine anyT_val (But.pre _) 4 rfl (by kernel_rfl) (by kernel_rfl) (by kernel_rfl) (fun _ _ _ _ h => h) rfl ?_; apply Exists.intro; refine ⟨fun v1 hv1 => ?_, ?_⟩; (· (go_simp; rfl)); simp only [Act.put, List.setIfInBounds_toArray, List.set_cons_zero, List.set_cons_succ]
    refine anyT_val (But.pre _) 5 rfl (by kernel_rfl) (by kernel_rfl) (by kernel_rfl) (fun _ _ _ _ h => h) rfl ?_; apply Exists.intro; refine ⟨fun v1 hv1 => ?_, ?_⟩; (· (go_simp; rfl)); simp only [Act.put, List.setIfInBounds_toArray, List.set_cons_zero, List.set_cons_succ]
    refine anyT_val (But.pre _) 6 rfl (by kernel_rfl) (by kernel_rfl) (by kernel_rfl) (fun _ _ _ _ h => h) rfl ?_; apply Exists.intro; refine ⟨fun v1 hv1 => ?_, ?_⟩; (· (go_simp; rfl)); simp only [Act.put, List.setIfInBounds_toArray, List.set_cons_zero, List.set_cons_succ]
    clear ha
    refine anyT_one 3 rfl (by kernel_rfl) rfl ?_
    refine wp_enter 22 #[.pointer (some ⟨a, 0, none⟩), .int .i64 d.at0] (by go_simp) ?_
    refine (drop9_any base a va l d.at0 Wd (hA.later lwd) (by have := hok.1; omega)).mono ?_
    rintro e W1 ⟨rfl, q1⟩
    obtain ⟨va', r1, b1, f1⟩ := id q1
    refine ⟨⟨b1.os, b1.tape, b1.output, b1.size, fun k hk he => b1.block k hk (fun e => he (e.imp id (fun e => .inr (.inl e))))⟩, ?_⟩
    have hB1 : RL 67 base W1 b vb l := (hB.later lwd).but b1 (fun e => by rcases e with e | e; (· have e1 := (hA.later lwd).2.1; rw [← e, (hB.later lwd).2.1] at e1; simp at e1); (· exact (hA.later lwd).ne (hB.later lwd).2.1 (by decide) e)) (fun g hg e => by rcases e with e | e; (· subst e; exact (hB.later lwd).ne (hA.later lwd).2.1 (by decide) hg); (· exact hap g e hg))
    have hs1 := b1.size
    simp only [Act.put, List.setIfInBounds_toArray, List.set_cons_zero, List.set_cons_succ]
    refine anyT_one 7 rfl (by kernel_rfl) rfl ?_
    refine wp_enter 39 #[.pointer (some ⟨b, 0, none⟩), .int .i64 d.at0] (by go_simp) ?_
    refine (rdrop9_any base b vb l d.at0 W1 hB1 (by have := hok.1; omega) (by omega)).mono ?_
    rintro e W2 ⟨rfl, q2⟩
    obtain ⟨hPQ, hBt⟩ := PQ.two (hA.later lwd) (hB.later lwd) hap q1 q2
    refine ⟨by obtain ⟨_, _, b2, _⟩ := id q2; exact ⟨b2.os, b2.tape, b2.output, b2.size, fun k hk he => b2.block k hk (fun e => he (.inr (e.imp id (fun e => .inr e))))⟩, ?_⟩
    simp only [Act.put, List.setIfInBounds_toArray, List.set_cons_zero, List.set_cons_succ]
    refine anyT_val (But.pre _) 8 rfl (by kernel_rfl) (by kernel_rfl) (by kernel_rfl) (fun _ _ _ _ h => h) rfl ?_; apply Exists.intro; refine ⟨fun v1 hv1 => ?_, ?_⟩; (· (go_simp; rfl)); simp only [Act.put, List.setIfInBounds_toArray, List.set_cons_zero, List.set_cons_succ]
    refine anyT_one 9 rfl (by kernel_rfl) rfl ?_
    unfold Oper.wp
    go_simp
    refine ⟨But.refl _ _, ?_⟩
    refine anyT_done (by kernel_rfl) ?_
    have hfin : Below base w W2 := (lwd.mono hbs).trans (hBt.below (by omega) (fun k hk e => by have := hEb k e; omega))
    go_wp2_with fail
    go_ret
    refine ⟨by simp, ?_, hfin⟩
    rw [HLO.out true hdr.symm]
    exact hPQ
  | false =>
    rw [hdr] at k0 c0 lb0
    go_upto_region 3 with fail
    clear k0
    generalize w.alloc _ = w0 at *
    refine anyT_begin (R := But (fun g => g = a ∨ g = b ∨ va.ownBlock = some g ∨ vb.ownBlock = some g)) 10 rfl (by kernel_rfl) ?_
    have ld : Later w0 w0.drew := Later.drew w0
    have lwd := lb0.trans ld
    have cd := later_keep ld c0
    generalize w0.drew = Wd at *
    have hwsz := lwd.size
    have ha : ∀ v1, But (fun g => g = a ∨ g = b ∨ va.ownBlock = some g ∨ vb.ownBlock = some g) Wd v1 → ∀ j, v1.cell? ⟨w.heap.size, j, none⟩ = _ := fun v1 hv => block_cell ((hv.block w.heap.size (Array.getElem?_eq_some_iff.1 cd).1 (fun hE => by rcases hE with e | e | e | e; (· exact hxa e); (· exact hxb e); (· exact hxva e); (· exact hxvb e))).trans cd)
    refine anyT_val (But.pre _) 0 rfl (by kernel_rfl) (by kernel_rfl) (by kernel_rfl) (fun _ _ _ _ h => h) rfl ?_; apply Exists.intro; refine ⟨fun v1 hv1 => ?_, ?_⟩; (· (go_simp; rfl)); simp only [Act.put, List.setIfInBounds_toArray, List.set_cons_zero, List.set_cons_succ]
    refine anyT_val (But.pre _) 1 rfl (by kernel_rfl) (by kernel_rfl) (by kernel_rfl) (fun _ _ _ _ h => h) rfl ?_; apply Exists.intro; refine ⟨fun v1 hv1 => ?_, ?_⟩; (· (go_simp; rfl)); simp only [Act.put, List.setIfInBounds_toArray, List.set_cons_zero, List.set_cons_succ]
    refine anyT_val (But.pre _) 2 rfl (by kernel_rfl) (by kernel_rfl) (by kernel_rfl) (fun _ _ _ _ h => h) rfl ?_; apply Exists.intro; refine ⟨fun v1 hv1 => ?_, ?_⟩; (· (go_simp; rfl)); simp only [Act.put, List.setIfInBounds_toArray, List.set_cons_zero, List.set_cons_succ]
    refine anyT_val (But.pre _) 4 rfl (by kernel_rfl) (by kernel_rfl) (by kernel_rfl) (fun _ _ _ _ h => h) rfl ?_; apply Exists.intro; refine ⟨fun v1 hv1 => ?_, ?_⟩; (· (go_simp; rfl)); simp only [Act.put, List.setIfInBounds_toArray, List.set_cons_zero, List.set_cons_succ]
    refine anyT_val (But.pre _) 5 rfl (by kernel_rfl) (by kernel_rfl) (by kernel_rfl) (fun _ _ _ _ h => h) rfl ?_; apply Exists.intro; refine ⟨fun v1 hv1 => ?_, ?_⟩; (· (go_simp; rfl)); simp only [Act.put, List.setIfInBounds_toArray, List.set_cons_zero, List.set_cons_succ]
    refine anyT_val (But.pre _) 6 rfl (by kernel_rfl) (by kernel_rfl) (by kernel_rfl) (fun _ _ _ _ h => h) rfl ?_; apply Exists.intro; refine ⟨fun v1 hv1 => ?_, ?_⟩; (· (go_simp; rfl)); simp only [Act.put, List.setIfInBounds_toArray, List.set_cons_zero, List.set_cons_succ]
    clear ha
    refine anyT_one 3 rfl (by kernel_rfl) rfl ?_
    refine wp_enter 13 #[.pointer (some ⟨a, 0, none⟩), .agg #[.int .i64 d.r.kind, .int .u8 d.r.proto, .int .u32 d.r.net, .int .i64 d.r.bits, .int .u32 d.r.to, .int .u16 d.r.port, .int .u32 d.r.host, .int .u16 d.r.hp]] (by go_simp) ?_
    refine (add9_any base a va l d.r Wd (hA.later lwd) hd.1 hok.1 (by omega)).mono ?_
    rintro e W1 ⟨rfl, q1⟩
    obtain ⟨va', r1, b1, f1⟩ := id q1
    refine ⟨⟨b1.os, b1.tape, b1.output, b1.size, fun k hk he => b1.block k hk (fun e => he (e.imp id (fun e => .inr (.inl e))))⟩, ?_⟩
    have hB1 : RL 67 base W1 b vb l := (hB.later lwd).but b1 (fun e => by rcases e with e | e; (· have e1 := (hA.later lwd).2.1; rw [← e, (hB.later lwd).2.1] at e1; simp at e1); (· exact (hA.later lwd).ne (hB.later lwd).2.1 (by decide) e)) (fun g hg e => by rcases e with e | e; (· subst e; exact (hB.later lwd).ne (hA.later lwd).2.1 (by decide) hg); (· exact hap g e hg))
    have hs1 := b1.size
    simp only [Act.put, List.setIfInBounds_toArray, List.set_cons_zero, List.set_cons_succ]
    refine anyT_one 7 rfl (by kernel_rfl) rfl ?_
    refine wp_enter 40 #[.pointer (some ⟨b, 0, none⟩), .agg #[.int .i64 d.r.kind, .int .u8 d.r.proto, .int .u32 d.r.net, .int .i64 d.r.bits, .int .u32 d.r.to, .int .u16 d.r.port, .int .u32 d.r.host, .int .u16 d.r.hp]] (by go_simp) ?_
    refine (radd9_any base b vb l d.r W1 hB1 hd.1 hok.1 (by omega)).mono ?_
    rintro e W2 ⟨rfl, q2⟩
    obtain ⟨hPQ, hBt⟩ := PQ.two (hA.later lwd) (hB.later lwd) hap q1 q2
    refine ⟨by obtain ⟨_, _, b2, _⟩ := id q2; exact ⟨b2.os, b2.tape, b2.output, b2.size, fun k hk he => b2.block k hk (fun e => he (.inr (e.imp id (fun e => .inr e))))⟩, ?_⟩
    simp only [Act.put, List.setIfInBounds_toArray, List.set_cons_zero, List.set_cons_succ]
    refine anyT_val (But.pre _) 8 rfl (by kernel_rfl) (by kernel_rfl) (by kernel_rfl) (fun _ _ _ _ h => h) rfl ?_; apply Exists.intro; refine ⟨fun v1 hv1 => ?_, ?_⟩; (· (go_simp; rfl)); simp only [Act.put, List.setIfInBounds_toArray, List.set_cons_zero, List.set_cons_succ]
    refine anyT_one 9 rfl (by kernel_rfl) rfl ?_
    unfold Oper.wp
    go_simp
    refine ⟨But.refl _ _, ?_⟩
    refine anyT_done (by kernel_rfl) ?_
    have hfin : Below base w W2 := (lwd.mono hbs).trans (hBt.below (by omega) (fun k hk e => by have := hEb k e; omega))
    go_wp2_with fail
    go_ret
    refine ⟨by simp, ?_, hfin⟩
    rw [HLO.out false hdr.symm]
    exact hPQ

/-- Behind some deeds. -/
def plL (l : List Ru) (ds : List Dd) : List Ru := ds.foldl doL l
theorem plL_snoc (l : List Ru) (ds : List Dd) (d : Dd) : plL l (ds ++ [d]) = doL (plL l ds) d := by unfold plL; simp
theorem okL_play {ds : List Dd} : ∀ {l : List Ru}, okL l → (∀ d ∈ ds, wfD d) → okL (plL l ds) := by
  induction ds with
  | nil => intro l h _; exact h
  | cons d ds ih => intro l h hd; exact ih (okL_do h (hd d (by simp))) (fun x hx => hd x (by simp [hx]))
theorem okL_nil : okL [] := ⟨by simp, fun x hx => by cases hx⟩

set_option maxHeartbeats 8000000 in
theorem play9_any (n₀ : Nat) (sv : Value) (ds : List Dd) (w : World) (hI : RdD n₀ w sv ds) (hd : ∀ d ∈ ds, wfD d) (hn : n₀ ≤ w.heap.size) :
    Calls Try.prog 9 #[sv] w fun e w' => Later w w' ∧ ∃ a b, e = .returned (.tuple #[.pointer (some ⟨a, 0, none⟩), .pointer (some ⟨b, 0, none⟩), .bool true]) ∧ PQ w.heap.size w' a b (plL [] (ds.take 60)) := by
  obtain ⟨aa, ca, rfl, ha1, ha2⟩ := hI.slice
  have HI := hide hI
  clear hI
  go_enter Try.func9, Try.ntmps9
  go_wp2_with fail
  refine (new9_any w).mono ?_
  rintro e w1 ⟨rfl, l1, hA⟩
  generalize hwa : w.heap.size = a at *
  go_wp2_with fail
  refine (rnew9_any w1).mono ?_
  rintro e w2 ⟨rfl, l2, hB⟩
  have hA2 := hA.later l2
  have hs1 := l1.size
  have hPQ0 : PQ a w2 a w1.heap.size [] := ⟨_, _, hA2, ⟨by omega, hB.2.1, rfl, .inl ⟨rfl, rfl⟩⟩, fun g hg => by cases hg⟩
  generalize w1.heap.size = b at *
  have L2 := l1.trans l2
  clear hB hA hA2
  go_wp2_with fail
  go_loopw [7] (fun i wr => ∃ k : Nat, k ≤ ds.length ∧ k ≤ 60 ∧ i = .int .i64 (k : Int) ∧ PQ a wr a b (plL [] (ds.take k)) ∧ Below a w2 wr) (fun i _ => ds.length - (intOf i).toNat)
  case atStart => exact ⟨0, by omega, by omega, rfl, by rw [List.take_zero]; exact hPQ0, Below.refl _ _⟩
  case round =>
    obtain ⟨k, hk, hk6, rfl, hPQ, hbw⟩ := hrel
    have hbz : Below a w wr := Below.trans (by rw [← hwa]; exact L2) hbw
    by_cases hlt : k < ds.length
    · have hlt' : (k : Int) < ds.length := by omega
      by_cases h60 : k < 60
      · have h60' : (k : Int) < 60 := by omega
        obtain ⟨bb, off, cp, e, _, _, hbb, hcs⟩ := (HI.out.below (hbz.mono (by omega))).cells (by omega)
        simp at e
        obtain ⟨rfl, rfl⟩ := e
        have d0 := hcs k hlt 0 (by omega)
        have d1 := hcs k hlt 1 (by omega)
        have d2 := hcs k hlt 2 (by omega)
        have d3 := hcs k hlt 3 (by omega)
        have d4 := hcs k hlt 4 (by omega)
        have d5 := hcs k hlt 5 (by omega)
        have d6 := hcs k hlt 6 (by omega)
        have d7 := hcs k hlt 7 (by omega)
        have d8 := hcs k hlt 8 (by omega)
        have d9 := hcs k hlt 9 (by omega)
        have hwf := hd ds[k] (List.getElem_mem hlt)
        have htk : plL [] (ds.take (k + 1)) = doL (plL [] (ds.take k)) ds[k] := by rw [← List.take_append_getElem hlt, plL_snoc]
        have hok : okL (plL [] (ds.take k)) := okL_play okL_nil (fun d hx => hd d (List.mem_of_mem_take hx))
        clear hcs
        generalize ds[k] = r at *
        have HTK := hide htk
        clear htk
        simp only [ddc, List.getElem?_cons_zero, List.getElem?_cons_succ, Nat.add_zero] at d0 d1 d2 d3 d4 d5 d6 d7 d8 d9
        have hdo := do9_any a a b _ r wr hPQ hok hwf (by have := hbz.size; omega)
        unfold ddc at hdo
        have HDO := hide hdo
        clear hdo
        go_wp2_with fail
        refine HDO.out.mono ?_
        rintro e W3 ⟨rfl, hP3, hb3⟩
        clear d0 d1 d2 d3 d4 d5 d6 d7 d8 d9
        go_wp2_with fail
        go_roundw
        case rel => exact ⟨k + 1, by omega, by omega, by go_num, by rw [HTK.out]; exact hP3, hbw.trans hb3⟩
        case measure => simp [intOf]; omega
      · obtain rfl : k = 60 := by omega
        go_wp2_with fail
        refine bodyPost_ret (v := .tuple #[.pointer (some ⟨a, 0, none⟩), .pointer (some ⟨b, 0, none⟩), .bool true]) (by simp [results, Try.results9, go_sem]) rfl ⟨by unfold Later; rw [hwa]; exact hbz, a, b, rfl, by rw [hwa]; exact hPQ⟩
    · obtain rfl : k = ds.length := by omega
      go_wp2_with fail
      refine bodyPost_ret (v := .tuple #[.pointer (some ⟨a, 0, none⟩), .pointer (some ⟨b, 0, none⟩), .bool true]) (by simp [results, Try.results9, go_sem]) rfl ⟨by unfold Later; rw [hwa]; exact hbz, a, b, rfl, ?_⟩
      rw [List.take_length] at hPQ
      rw [hwa, List.take_of_length_le hk6]
      exact hPQ
end Go.Proofs.Ytgjemeibaghfaaa
