/- Deeds on both sides' books. -/
import Derived.Test.YtbimdhapkbdmjaaEK
import Derived.Test.YtbimdhapkbdmjaaOpF
namespace Go.Proofs.Ytbimdhapkbdmjaa
open Go.RowKit Go.Shelf
set_option maxRecDepth 100000
set_option linter.unusedVariables false
set_option linter.unusedSimpArgs false

/-- The program's book and the document's, which hold the same. -/
def PE (base : Nat) (W : World) (a b : Nat) (l : List Ex) : Prop := ∃ va vb, BL 54 base W a va l ∧ BL 64 base W b vb l ∧ ∀ g, va.ownBlock = some g → vb.ownBlock ≠ some g
theorem PE.later {base : Nat} {A B : World} {a b : Nat} {l : List Ex} (h : PE base A a b l) (k : Later A B) : PE base B a b l := by
  obtain ⟨va, vb, h1, h2, h3⟩ := h
  exact ⟨va, vb, h1.later k, h2.later k, h3⟩
theorem PE.below {base n : Nat} {A B : World} {a b : Nat} {l : List Ex} (h : PE base A a b l) (k : Below n A B) (hn : A.heap.size ≤ n) : PE base B a b l := h.later (k.mono hn)
/-- Blocks of a book that was there. -/
def Eb (base n : Nat) (g : Nat) : Prop := base ≤ g ∧ g < n
theorem BLq.eb {t : TypeId} {base : Nat} {w W W1 : World} {b : Nat} {v : Value} {l l' : List Ex} (h : BL t base w b v l) (q : BLq t base W W1 b v l') : But (Eb base w.heap.size) W W1 := by
  obtain ⟨v', _, k, _⟩ := q
  refine ⟨k.os, k.tape, k.output, k.size, fun i hi he => k.block i hi (fun e => he ?_)⟩
  rcases e with e | e
  · rw [e]; exact ⟨h.1, h.blt⟩
  · exact h.lt e
theorem BLq.later {t : TypeId} {base : Nat} {W W1 W2 : World} {b : Nat} {v : Value} {l : List Ex} (q : BLq t base W W1 b v l) (k : Later W1 W2) : BLq t base W W2 b v l := by
  obtain ⟨v', h1, h2, h3⟩ := q
  exact ⟨v', h1.later k, h2.trans (But.of k), h3⟩
theorem PE.one {base : Nat} {w W W1 : World} {a b : Nat} {va vb : Value} {l l' : List Ex} (h1 : BL 54 base w a va l) (h2 : BL 64 base w b vb l) (h3 : ∀ g, va.ownBlock = some g → vb.ownBlock ≠ some g) (lw : Later w W)
    (q1 : BLq 54 base W W1 a va l') : BL 64 base W1 b vb l ∧ But (Eb base w.heap.size) W W1 := by
  refine ⟨?_, BLq.eb h1 q1⟩
  obtain ⟨va', r1, b1, f1⟩ := q1
  have hab : a ≠ b := fun e => by
    have e1 := h1.2.1
    rw [e, h2.2.1] at e1
    simp at e1
  exact (h2.later lw).but b1 (fun e => by rcases e with e | e; (· exact hab e.symm); (· exact h1.ne h2.2.1 (by decide) e)) (fun g hg e => by rcases e with e | e; (· subst e; exact h2.ne h1.2.1 (by decide) hg); (· exact h3 g e hg))
theorem PE.two {base : Nat} {w W W1 W2 : World} {a b : Nat} {va vb : Value} {l l' : List Ex} (h1 : BL 54 base w a va l) (h2 : BL 64 base w b vb l) (h3 : ∀ g, va.ownBlock = some g → vb.ownBlock ≠ some g) (lw : Later w W)
    (q1 : BLq 54 base W W1 a va l') (q2 : BLq 64 base W1 W2 b vb l') : PE base W2 a b l' ∧ But (Eb base w.heap.size) W1 W2 := by
  obtain ⟨h2', _⟩ := PE.one h1 h2 h3 lw q1
  refine ⟨?_, BLq.eb h2 q2⟩
  obtain ⟨va', r1, b1, f1⟩ := q1
  obtain ⟨vb', r2, b2, f2⟩ := q2
  have hab : a ≠ b := fun e => by
    have e1 := h1.2.1
    rw [e, h2.2.1] at e1
    simp at e1
  have hws := lw.size
  have hva : ∀ g, va'.ownBlock = some g → vb.ownBlock ≠ some g := fun g hg e => by
    rcases f1 with f | f
    · rw [f] at hg; exact h3 g hg e
    · have := f g hg
      have := (h2.lt e).2
      omega
  have r1' : BL 54 base W2 a va' l' := r1.but b2 (fun e => by rcases e with e | e; (· exact hab e); (· exact h2'.ne r1.2.1 (by decide) e)) (fun g hg e => by rcases e with e | e; (· subst e; exact r1.ne h2'.2.1 (by decide) hg); (· exact hva g hg e))
  refine ⟨va', vb', r1', r2, fun g hg e => ?_⟩
  rcases f2 with f | f
  · rw [f] at e; exact hva g hg e
  · have := f g e
    have := (r1.lt hg).2
    omega

/-- What every book is. -/
def okX (l : List Ex) : Prop := l.length ≤ 32 ∧ naL l ∧ ∀ m, ownN m l ≤ 4
theorem okX_nil : okX [] := ⟨by simp, List.Pairwise.nil, fun m => by simp [ownN]⟩
theorem okX_sub {l l' : List Ex} (h : okX l) (s : l'.Sublist l) : okX l' := ⟨Nat.le_trans s.length_le h.1, h.2.1.sublist s, fun m => Nat.le_trans (s.filter _).length_le (h.2.2 m)⟩
theorem alX_symm (x y : Ex) : alX x y = alX y x := by
  unfold alX
  rw [decide_eq_decide.2 (show y.pr = x.pr ↔ x.pr = y.pr from ⟨Eq.symm, Eq.symm⟩), decide_eq_decide.2 (show y.dst = x.dst ↔ x.dst = y.dst from ⟨Eq.symm, Eq.symm⟩), decide_eq_decide.2 (show y.dp = x.dp ↔ x.dp = y.dp from ⟨Eq.symm, Eq.symm⟩)]
theorem okX_add {l : List Ex} {x : Ex} (h : okX l) : okX (adL l x) := by
  by_cases h0 : adE l x = 0
  · rw [adL_yes h0]
    unfold adE at h0
    split at h0
    · omega
    split at h0
    · omega
    split at h0
    · omega
    rename_i h1 h2 h3
    have hn : l.any (alX x) = false := by simpa using h2
    refine ⟨by rw [List.length_append, List.length_singleton]; omega, ?_, fun m => ?_⟩
    · refine List.pairwise_append.2 ⟨h.2.1, List.pairwise_singleton _ _, fun y hy z hz => ?_⟩
      obtain rfl : z = x := by simpa using hz
      rw [alX_symm]
      simpa using List.any_eq_false.1 hn y hy
    · have hs := ownN_snoc m l x
      have := h.2.2 m
      by_cases e : x.ms = m
      · rw [hs.1 e]
        rw [e] at h3
        omega
      · rw [hs.2 e]; exact this
  · rw [adL_no h0]; exact h
theorem okX_mt {l : List Ex} (q : Ex → Bool) (h : okX l) : okX (mtL q l) := by
  unfold mtL
  split
  · exact okX_sub h List.filter_sublist
  · exact h
def doL (l : List Ex) (d : Dx) : List Ex := if d.k = 0 then adL l d.e else if d.k = 1 then mtL (pkX d.t d.now) l else if d.k = 2 then l.filter (fun x => !decide (x.ms = d.e.ms)) else if d.k = 3 then l.filter (fun x => !decide (x.dl ≤ d.now)) else l
theorem okX_do {l : List Ex} {d : Dx} (h : okX l) : okX (doL l d) := by
  unfold doL
  split
  · exact okX_add h
  split
  · exact okX_mt _ h
  split
  · exact okX_sub h List.filter_sublist
  split
  · exact okX_sub h List.filter_sublist
  · exact h

set_option maxHeartbeats 8000000 in
theorem do12_any (base a b : Nat) (l : List Ex) (d : Dx) (w : World) (hP : PE base w a b l) (hok : okX l) (hbs : base ≤ w.heap.size) :
    Calls Try.prog 24 #[.pointer (some ⟨a, 0, none⟩), .pointer (some ⟨b, 0, none⟩), .agg (dxc d).toArray] w fun e w' => e = .returned (.bool true) ∧ PE base w' a b (doL l d) ∧ Below base w w' := by
  obtain ⟨va, vb, hA, hB, hap⟩ := hP
  have hl32 := hok.1
  have lb0 : Later w (w.alloc (.cells (dxc d).toArray 30)) := (Below.refl _ _).alloc (Nat.le_refl _) _
  have c0 := heap_alloc_new w (.cells (dxc d).toArray 30)
  unfold dxc at *
  by_cases h0 : d.k = 0
  · have HLO : Hid (doL l d = adL l d.e) := by show _ = _; unfold doL; rw [if_pos h0]
    rw [h0] at lb0 c0 ⊢
    clear h0
    go_enter Try.func24, Try.ntmps24
    have k0 := block_cell c0
    go_upto_region 3 with fail
    clear k0
    generalize w.alloc _ = w0 at *
    refine anyT_begin (R := But (Eb base w.heap.size)) 10 rfl (by kernel_rfl) ?_
    have ld : Later w0 w0.drew := Later.drew w0
    have lwd := lb0.trans ld
    have cd := later_keep ld c0
    generalize w0.drew = Wd at *
    have ha : ∀ v1, But (Eb base w.heap.size) Wd v1 → ∀ j, v1.cell? ⟨w.heap.size, j, none⟩ = _ := fun v1 hv => block_cell ((hv.block w.heap.size (Array.getElem?_eq_some_iff.1 cd).1 (fun hE => by have := hE.2; omega)).trans cd)
    refine anyT_val (But.pre _) 0 rfl (by kernel_rfl) (by kernel_rfl) (by kernel_rfl) (fun _ _ _ _ h => h) rfl ?_; apply Exists.intro; refine ⟨fun v1 hv1 => ?_, ?_⟩; (· (go_simp; rfl)); simp only [Act.put, List.setIfInBounds_toArray, List.set_cons_zero, List.set_cons_succ]
    refine anyT_val (But.pre _) 1 rfl (by kernel_rfl) (by kernel_rfl) (by kernel_rfl) (fun _ _ _ _ h => h) rfl ?_; apply Exists.intro; refine ⟨fun v1 hv1 => ?_, ?_⟩; (· (go_simp; rfl)); simp only [Act.put, List.setIfInBounds_toArray, List.set_cons_zero, List.set_cons_succ]
    refine anyT_val (But.pre _) 2 rfl (by kernel_rfl) (by kernel_rfl) (by kernel_rfl) (fun _ _ _ _ h => h) rfl ?_; apply Exists.intro; refine ⟨fun v1 hv1 => ?_, ?_⟩; (· (go_simp; rfl)); simp only [Act.put, List.setIfInBounds_toArray, List.set_cons_zero, List.set_cons_succ]
    refine anyT_val (But.pre _) 4 rfl (by kernel_rfl) (by kernel_rfl) (by kernel_rfl) (fun _ _ _ _ h => h) rfl ?_; apply Exists.intro; refine ⟨fun v1 hv1 => ?_, ?_⟩; (· (go_simp; rfl)); simp only [Act.put, List.setIfInBounds_toArray, List.set_cons_zero, List.set_cons_succ]
    refine anyT_val (But.pre _) 5 rfl (by kernel_rfl) (by kernel_rfl) (by kernel_rfl) (fun _ _ _ _ h => h) rfl ?_; apply Exists.intro; refine ⟨fun v1 hv1 => ?_, ?_⟩; (· (go_simp; rfl)); simp only [Act.put, List.setIfInBounds_toArray, List.set_cons_zero, List.set_cons_succ]
    refine anyT_val (But.pre _) 6 rfl (by kernel_rfl) (by kernel_rfl) (by kernel_rfl) (fun _ _ _ _ h => h) rfl ?_; apply Exists.intro; refine ⟨fun v1 hv1 => ?_, ?_⟩; (· (go_simp; rfl)); simp only [Act.put, List.setIfInBounds_toArray, List.set_cons_zero, List.set_cons_succ]
    clear ha
    refine anyT_one 3 rfl (by kernel_rfl) rfl ?_
    refine wp_enter 13 #[.pointer (some ⟨a, 0, none⟩), .agg #[.int .u8 d.e.pr, .int .u32 d.e.src, .int .u32 d.e.dst, .int .u16 d.e.sp, .int .u16 d.e.dp, .int .u32 d.e.host, .int .u16 d.e.hp, .int .i64 d.e.ms, .int .i64 d.e.dl]] (by go_simp) ?_
    refine (add12_any base a va l d.e Wd (hA.later lwd) (by omega) (by have := lwd.size; omega)).mono ?_
    rintro e W1 ⟨rfl, q1⟩
    obtain ⟨hB1, b1⟩ := PE.one hA hB hap lwd q1
    refine ⟨b1, ?_⟩
    simp only [Act.put, List.setIfInBounds_toArray, List.set_cons_zero, List.set_cons_succ]
    have hs1 := b1.size
    have hwd : w.heap.size ≤ Wd.heap.size := lwd.size
    refine anyT_one 7 rfl (by kernel_rfl) rfl ?_
    refine wp_enter 40 #[.pointer (some ⟨b, 0, none⟩), .agg #[.int .u8 d.e.pr, .int .u32 d.e.src, .int .u32 d.e.dst, .int .u16 d.e.sp, .int .u16 d.e.dp, .int .u32 d.e.host, .int .u16 d.e.hp, .int .i64 d.e.ms, .int .i64 d.e.dl]] (by go_simp) ?_
    refine (radd12_any base b vb l d.e W1 hB1 (by omega) (by omega)).mono ?_
    rintro e W2 ⟨rfl, q2⟩
    obtain ⟨hPE, b2⟩ := PE.two hA hB hap lwd q1 q2
    refine ⟨b2, ?_⟩
    simp only [Act.put, List.setIfInBounds_toArray, List.set_cons_zero, List.set_cons_succ]
    refine anyT_val (But.pre _) 8 rfl (by kernel_rfl) (by kernel_rfl) (by kernel_rfl) (fun _ _ _ _ h => h) rfl ?_; apply Exists.intro; refine ⟨fun v1 hv1 => ?_, ?_⟩; (· (go_simp; rfl)); simp only [Act.put, List.setIfInBounds_toArray, List.set_cons_zero, List.set_cons_succ]
    refine anyT_one 9 rfl (by kernel_rfl) rfl ?_
    unfold Oper.wp
    go_simp
    refine ⟨But.refl _ _, ?_⟩
    refine anyT_done (by kernel_rfl) ?_
    have hfin : Below base w W2 := (lwd.mono hbs).trans ((b1.trans b2).below (by omega) (fun k hk e => by have := e.1; omega))
    go_wp2_with fail
    go_ret
    refine ⟨by simp, ?_, hfin⟩
    rw [HLO.out]
    exact hPE
  by_cases h1 : d.k = 1
  · have HLO : Hid (doL l d = mtL (pkX d.t d.now) l) := by show _ = _; unfold doL; rw [if_neg h0, if_pos h1]
    rw [h1] at lb0 c0 ⊢
    clear h0 h1
    go_enter Try.func24, Try.ntmps24
    have k0 := block_cell c0
    have HM := hide (fun W (lw : Later w W) => match12_any base a va l d.t d.now W (hA.later lw) (Nat.le_trans hbs lw.size) (by omega))
    have HMR := hide (fun W (h : BL 64 base W b vb l) (hb : base ≤ W.heap.size) => rmatch12_any base b vb l d.t d.now W h (by omega) hb hok.2.1)
    unfold tuc at HM HMR
    go_wp2_with fail
    generalize w.alloc _ = w0 at *
    refine (HM.out w0 lb0).mono ?_
    rintro e W1 ⟨rfl, q1⟩
    obtain ⟨hB1, b1⟩ := PE.one hA hB hap lb0 q1
    have hs0 : w.heap.size ≤ w0.heap.size := lb0.size
    have hs1 := b1.size
    have c1 := (b1.block w.heap.size (Array.getElem?_eq_some_iff.1 c0).1 (fun hE => by have := hE.2; omega)).trans c0
    clear k0 HM
    generalize hfr : fnd (pkX d.t d.now) l = r at *
    generalize hfq : fdb (pkX d.t d.now) l = q at *
    unfold exc
    have la1 : Later W1 (W1.alloc (.cells #[.int .u8 r.pr, .int .u32 r.src, .int .u32 r.dst, .int .u16 r.sp, .int .u16 r.dp, .int .u32 r.host, .int .u16 r.hp, .int .i64 r.ms, .int .i64 r.dl] 26)) := (Below.refl _ _).alloc (Nat.le_refl _) _
    have e1 := heap_alloc_new W1 (.cells #[.int .u8 r.pr, .int .u32 r.src, .int .u32 r.dst, .int .u16 r.sp, .int .u16 r.dp, .int .u32 r.host, .int .u16 r.hp, .int .i64 r.ms, .int .i64 r.dl] 26)
    go_upto_region 6 with fail
    generalize W1.alloc _ = W1a at *
    have k1 := block_cell (later_keep la1 c1)
    have hsa : W1.heap.size < W1a.heap.size := (Array.getElem?_eq_some_iff.1 e1).1
    go_wp2_with fail
    refine (HMR.out W1a (hB1.later la1) (by omega)).mono ?_
    rintro e W2 ⟨rfl, q2⟩
    obtain ⟨hPE, b2⟩ := PE.two hA hB hap lb0 (q1.later la1) q2
    have hs2 := b2.size
    have e2 := (b2.block W1.heap.size (by omega) (fun hE => by have := hE.2; omega)).trans e1
    clear k1 HMR q1 q2
    unfold exc
    have la2 : Later W2 (W2.alloc (.cells #[.int .u8 r.pr, .int .u32 r.src, .int .u32 r.dst, .int .u16 r.sp, .int .u16 r.dp, .int .u32 r.host, .int .u16 r.hp, .int .i64 r.ms, .int .i64 r.dl] 26)) := (Below.refl _ _).alloc (Nat.le_refl _) _
    have f2 := heap_alloc_new W2 (.cells #[.int .u8 r.pr, .int .u32 r.src, .int .u32 r.dst, .int .u16 r.sp, .int .u16 r.dp, .int .u32 r.host, .int .u16 r.hp, .int .i64 r.ms, .int .i64 r.dl] 26)
    go_upto_region 7 with fail
    generalize W2.alloc _ = W3 at *
    have j1 := block_cell (later_keep la2 e2)
    have j2 := block_cell f2
    have hfin : Below base w W3 := (lb0.mono hbs).trans ((b1.below (by omega) (fun k hk e => by have := e.1; omega)).trans ((la1.mono (by omega)).trans ((b2.below (by omega) (fun k hk e => by have := e.1; omega)).trans (la2.mono (by omega)))))
    have HPE := hide (hPE.later la2)
    clear hPE
    go_wp2_with fail
    go_ret
    refine ⟨by first | rfl | simp, ?_, hfin⟩
    rw [HLO.out]
    exact HPE.out
  by_cases h2 : d.k = 2
  · have HLO : Hid (doL l d = l.filter (fun x => !decide (x.ms = d.e.ms))) := by show _ = _; unfold doL; rw [if_neg h0, if_neg h1, if_pos h2]
    rw [h2] at lb0 c0 ⊢
    clear h0 h1 h2
    go_enter Try.func24, Try.ntmps24
    have k0 := block_cell c0
    go_upto_region 9 with fail
    clear k0
    generalize w.alloc _ = w0 at *
    refine anyT_begin (R := But (Eb base w.heap.size)) 12 rfl (by kernel_rfl) ?_
    have ld : Later w0 w0.drew := Later.drew w0
    have lwd := lb0.trans ld
    have cd := later_keep ld c0
    generalize w0.drew = Wd at *
    have ha : ∀ v1, But (Eb base w.heap.size) Wd v1 → ∀ j, v1.cell? ⟨w.heap.size, j, none⟩ = _ := fun v1 hv => block_cell ((hv.block w.heap.size (Array.getElem?_eq_some_iff.1 cd).1 (fun hE => by have := hE.2; omega)).trans cd)
    refine anyT_val (But.pre _) 0 rfl (by kernel_rfl) (by kernel_rfl) (by kernel_rfl) (fun _ _ _ _ h => h) rfl ?_; apply Exists.intro; refine ⟨fun v1 hv1 => ?_, ?_⟩; (· (go_simp; rfl)); simp only [Act.put, List.setIfInBounds_toArray, List.set_cons_zero, List.set_cons_succ]
    refine anyT_val (But.pre _) 1 rfl (by kernel_rfl) (by kernel_rfl) (by kernel_rfl) (fun _ _ _ _ h => h) rfl ?_; apply Exists.intro; refine ⟨fun v1 hv1 => ?_, ?_⟩; (· (go_simp; rfl)); simp only [Act.put, List.setIfInBounds_toArray, List.set_cons_zero, List.set_cons_succ]
    refine anyT_val (But.pre _) 2 rfl (by kernel_rfl) (by kernel_rfl) (by kernel_rfl) (fun _ _ _ _ h => h) rfl ?_; apply Exists.intro; refine ⟨fun v1 hv1 => ?_, ?_⟩; (· (go_simp; rfl)); simp only [Act.put, List.setIfInBounds_toArray, List.set_cons_zero, List.set_cons_succ]
    refine anyT_val (But.pre _) 3 rfl (by kernel_rfl) (by kernel_rfl) (by kernel_rfl) (fun _ _ _ _ h => h) rfl ?_; apply Exists.intro; refine ⟨fun v1 hv1 => ?_, ?_⟩; (· (go_simp; rfl)); simp only [Act.put, List.setIfInBounds_toArray, List.set_cons_zero, List.set_cons_succ]
    refine anyT_val (But.pre _) 5 rfl (by kernel_rfl) (by kernel_rfl) (by kernel_rfl) (fun _ _ _ _ h => h) rfl ?_; apply Exists.intro; refine ⟨fun v1 hv1 => ?_, ?_⟩; (· (go_simp; rfl)); simp only [Act.put, List.setIfInBounds_toArray, List.set_cons_zero, List.set_cons_succ]
    refine anyT_val (But.pre _) 6 rfl (by kernel_rfl) (by kernel_rfl) (by kernel_rfl) (fun _ _ _ _ h => h) rfl ?_; apply Exists.intro; refine ⟨fun v1 hv1 => ?_, ?_⟩; (· (go_simp; rfl)); simp only [Act.put, List.setIfInBounds_toArray, List.set_cons_zero, List.set_cons_succ]
    refine anyT_val (But.pre _) 7 rfl (by kernel_rfl) (by kernel_rfl) (by kernel_rfl) (fun _ _ _ _ h => h) rfl ?_; apply Exists.intro; refine ⟨fun v1 hv1 => ?_, ?_⟩; (· (go_simp; rfl)); simp only [Act.put, List.setIfInBounds_toArray, List.set_cons_zero, List.set_cons_succ]
    refine anyT_val (But.pre _) 8 rfl (by kernel_rfl) (by kernel_rfl) (by kernel_rfl) (fun _ _ _ _ h => h) rfl ?_; apply Exists.intro; refine ⟨fun v1 hv1 => ?_, ?_⟩; (· (go_simp; rfl)); simp only [Act.put, List.setIfInBounds_toArray, List.set_cons_zero, List.set_cons_succ]
    clear ha
    refine anyT_one 4 rfl (by kernel_rfl) rfl ?_
    refine wp_enter 19 #[.pointer (some ⟨a, 0, none⟩), .int .i64 d.e.ms] (by go_simp) ?_
    refine (gone12_any base a va l d.e.ms Wd (hA.later lwd) (by have := lwd.size; omega) (by omega)).mono ?_
    rintro e W1 ⟨u1, rfl, t1⟩
    obtain ⟨hB1, b1⟩ := PE.one hA hB hap lwd (t1.blq va)
    obtain ⟨v1', _, hu1, _, _⟩ := id t1
    refine ⟨b1, ?_⟩
    simp only [Act.put, List.setIfInBounds_toArray, List.set_cons_zero, List.set_cons_succ]
    have hs1 := b1.size
    have hwd : w.heap.size ≤ Wd.heap.size := lwd.size
    obtain ⟨s1, c1, rfl⟩ := ownE_slice hu1
    refine anyT_one 9 rfl (by kernel_rfl) rfl ?_
    refine wp_enter 42 #[.pointer (some ⟨b, 0, none⟩), .int .i64 d.e.ms] (by go_simp) ?_
    refine (rgone12_any base b vb l d.e.ms W1 hB1 (by omega) (by omega)).mono ?_
    rintro e W2 ⟨u2, rfl, t2⟩
    obtain ⟨hPE, b2⟩ := PE.two hA hB hap lwd (t1.blq va) (t2.blq vb)
    obtain ⟨v2', _, hu2, hbt2, _⟩ := id t2
    refine ⟨b2, ?_⟩
    simp only [Act.put, List.setIfInBounds_toArray, List.set_cons_zero, List.set_cons_succ]
    have hs2 := b2.size
    obtain ⟨s2, c2, rfl⟩ := ownE_slice hu2
    have hu1' := ownE_but hu1 hbt2 (fun g hg e => by have := (ownE_lt hu1 hg).1; have := hB.blt; omega)
    refine anyT_one 10 rfl (by kernel_rfl) rfl ?_
    refine wp_enter 21 #[.slice s1 (l.filter (fun x => decide (x.ms = d.e.ms))).length c1, .slice s2 (l.filter (fun x => decide (x.ms = d.e.ms))).length c2] (by go_simp) ?_
    refine (same12_eq W2.heap.size _ _ (l.filter (fun x => decide (x.ms = d.e.ms))) W2 (ownE_rd hu1') (ownE_rd hu2) (Nat.le_refl _) (Nat.le_trans (List.length_filter_le _ _) (by omega))).mono ?_
    rintro e W3 ⟨rfl, l3⟩
    refine ⟨But.of l3, ?_⟩
    simp only [Act.put, List.setIfInBounds_toArray, List.set_cons_zero, List.set_cons_succ]
    refine anyT_one 11 rfl (by kernel_rfl) rfl ?_
    unfold Oper.wp
    go_simp
    refine ⟨But.refl _ _, ?_⟩
    refine anyT_done (by kernel_rfl) ?_
    have hfin : Below base w W3 := (lwd.mono hbs).trans (((b1.trans b2).below (by omega) (fun k hk e => by have := e.1; omega)).trans (l3.mono (by omega)))
    have HPE := hide (hPE.later l3)
    clear hPE hu1 hu2 hu1' t1 t2
    go_wp2_with fail
    go_ret
    refine ⟨by first | rfl | simp, ?_, hfin⟩
    rw [HLO.out]
    exact HPE.out
  by_cases h3 : d.k = 3
  · have HLO : Hid (doL l d = l.filter (fun x => !decide (x.dl ≤ d.now))) := by show _ = _; unfold doL; rw [if_neg h0, if_neg h1, if_neg h2, if_pos h3]
    rw [h3] at lb0 c0 ⊢
    clear h0 h1 h2 h3
    go_enter Try.func24, Try.ntmps24
    have k0 := block_cell c0
    go_upto_region 11 with fail
    clear k0
    generalize w.alloc _ = w0 at *
    refine anyT_begin (R := But (Eb base w.heap.size)) 10 rfl (by kernel_rfl) ?_
    have ld : Later w0 w0.drew := Later.drew w0
    have lwd := lb0.trans ld
    have cd := later_keep ld c0
    generalize w0.drew = Wd at *
    have ha : ∀ v1, But (Eb base w.heap.size) Wd v1 → ∀ j, v1.cell? ⟨w.heap.size, j, none⟩ = _ := fun v1 hv => block_cell ((hv.block w.heap.size (Array.getElem?_eq_some_iff.1 cd).1 (fun hE => by have := hE.2; omega)).trans cd)
    refine anyT_val (But.pre _) 0 rfl (by kernel_rfl) (by kernel_rfl) (by kernel_rfl) (fun _ _ _ _ h => h) rfl ?_; apply Exists.intro; refine ⟨fun v1 hv1 => ?_, ?_⟩; (· (go_simp; rfl)); simp only [Act.put, List.setIfInBounds_toArray, List.set_cons_zero, List.set_cons_succ]
    refine anyT_val (But.pre _) 1 rfl (by kernel_rfl) (by kernel_rfl) (by kernel_rfl) (fun _ _ _ _ h => h) rfl ?_; apply Exists.intro; refine ⟨fun v1 hv1 => ?_, ?_⟩; (· (go_simp; rfl)); simp only [Act.put, List.setIfInBounds_toArray, List.set_cons_zero, List.set_cons_succ]
    refine anyT_val (But.pre _) 2 rfl (by kernel_rfl) (by kernel_rfl) (by kernel_rfl) (fun _ _ _ _ h => h) rfl ?_; apply Exists.intro; refine ⟨fun v1 hv1 => ?_, ?_⟩; (· (go_simp; rfl)); simp only [Act.put, List.setIfInBounds_toArray, List.set_cons_zero, List.set_cons_succ]
    refine anyT_val (But.pre _) 4 rfl (by kernel_rfl) (by kernel_rfl) (by kernel_rfl) (fun _ _ _ _ h => h) rfl ?_; apply Exists.intro; refine ⟨fun v1 hv1 => ?_, ?_⟩; (· (go_simp; rfl)); simp only [Act.put, List.setIfInBounds_toArray, List.set_cons_zero, List.set_cons_succ]
    refine anyT_val (But.pre _) 5 rfl (by kernel_rfl) (by kernel_rfl) (by kernel_rfl) (fun _ _ _ _ h => h) rfl ?_; apply Exists.intro; refine ⟨fun v1 hv1 => ?_, ?_⟩; (· (go_simp; rfl)); simp only [Act.put, List.setIfInBounds_toArray, List.set_cons_zero, List.set_cons_succ]
    refine anyT_val (But.pre _) 6 rfl (by kernel_rfl) (by kernel_rfl) (by kernel_rfl) (fun _ _ _ _ h => h) rfl ?_; apply Exists.intro; refine ⟨fun v1 hv1 => ?_, ?_⟩; (· (go_simp; rfl)); simp only [Act.put, List.setIfInBounds_toArray, List.set_cons_zero, List.set_cons_succ]
    clear ha
    refine anyT_one 3 rfl (by kernel_rfl) rfl ?_
    refine wp_enter 20 #[.pointer (some ⟨a, 0, none⟩), .int .i64 d.now] (by go_simp) ?_
    refine (due12_any base a va l d.now Wd (hA.later lwd) (by have := lwd.size; omega) (by omega)).mono ?_
    rintro e W1 ⟨u1, rfl, t1⟩
    obtain ⟨hB1, b1⟩ := PE.one hA hB hap lwd (t1.blq va)
    obtain ⟨v1', _, hu1, _, _⟩ := id t1
    refine ⟨b1, ?_⟩
    simp only [Act.put, List.setIfInBounds_toArray, List.set_cons_zero, List.set_cons_succ]
    have hs1 := b1.size
    have hwd : w.heap.size ≤ Wd.heap.size := lwd.size
    obtain ⟨s1, c1, rfl⟩ := ownE_slice hu1
    refine anyT_one 7 rfl (by kernel_rfl) rfl ?_
    refine wp_enter 43 #[.pointer (some ⟨b, 0, none⟩), .int .i64 d.now] (by go_simp) ?_
    refine (rdue12_any base b vb l d.now W1 hB1 (by omega) (by omega)).mono ?_
    rintro e W2 ⟨u2, rfl, t2⟩
    obtain ⟨hPE, b2⟩ := PE.two hA hB hap lwd (t1.blq va) (t2.blq vb)
    obtain ⟨v2', _, hu2, hbt2, _⟩ := id t2
    refine ⟨b2, ?_⟩
    simp only [Act.put, List.setIfInBounds_toArray, List.set_cons_zero, List.set_cons_succ]
    have hs2 := b2.size
    obtain ⟨s2, c2, rfl⟩ := ownE_slice hu2
    have hu1' := ownE_but hu1 hbt2 (fun g hg e => by have := (ownE_lt hu1 hg).1; have := hB.blt; omega)
    refine anyT_one 8 rfl (by kernel_rfl) rfl ?_
    refine wp_enter 21 #[.slice s1 (l.filter (fun x => decide (x.dl ≤ d.now))).length c1, .slice s2 (l.filter (fun x => decide (x.dl ≤ d.now))).length c2] (by go_simp) ?_
    refine (same12_eq W2.heap.size _ _ (l.filter (fun x => decide (x.dl ≤ d.now))) W2 (ownE_rd hu1') (ownE_rd hu2) (Nat.le_refl _) (Nat.le_trans (List.length_filter_le _ _) (by omega))).mono ?_
    rintro e W3 ⟨rfl, l3⟩
    refine ⟨But.of l3, ?_⟩
    simp only [Act.put, List.setIfInBounds_toArray, List.set_cons_zero, List.set_cons_succ]
    refine anyT_one 9 rfl (by kernel_rfl) rfl ?_
    unfold Oper.wp
    go_simp
    refine ⟨But.refl _ _, ?_⟩
    refine anyT_done (by kernel_rfl) ?_
    have hfin : Below base w W3 := (lwd.mono hbs).trans (((b1.trans b2).below (by omega) (fun k hk e => by have := e.1; omega)).trans (l3.mono (by omega)))
    have HPE := hide (hPE.later l3)
    clear hPE hu1 hu2 hu1' t1 t2
    go_wp2_with fail
    go_ret
    refine ⟨by first | rfl | simp, ?_, hfin⟩
    rw [HLO.out]
    exact HPE.out
  · have HLO : Hid (doL l d = l) := by show _ = _; unfold doL; rw [if_neg h0, if_neg h1, if_neg h2, if_neg h3]
    go_enter Try.func24, Try.ntmps24
    have k0 := block_cell c0
    have hPE : PE base _ a b l := ⟨va, vb, hA.later lb0, hB.later lb0, hap⟩
    have hfin := lb0.mono hbs
    go_wp2_with fail
    generalize w.alloc _ = w0 at *
    go_ret
    refine ⟨rfl, ?_, hfin⟩
    rw [HLO.out]
    exact hPE
end Go.Proofs.Ytbimdhapkbdmjaa
