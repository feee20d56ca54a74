/- Several texts in one. -/
import Derived.Test.YtahphjindjlcpaaRu
import Derived.Test.YtahphjindjlcpaaBS
import Derived.Deep.Upon
import Derived.Test.YtahphjindjlcpaaBH
import Derived.Test.YtahphjindjlcpaaBK
import Derived.Shelf.SlSortCmp.NoneTotal
import Derived.Test.YtahphjindjlcpaaProg
/- Regions that draw their order: some operations (those of D) may turn more than the others; what is read ahead of them is taken first. -/
namespace Go.Proofs.Ytahphjindjlcpaa
open Go.RowKit Go.Shelf
set_option maxRecDepth 100000
set_option linter.unusedVariables false

def Rj (R1 R2 : World → World → Prop) (D : List Nat) (j : Nat) : World → World → Prop := if D.contains j = true then R2 else R1
theorem Rj_in {R1 R2 : World → World → Prop} {D : List Nat} {j : Nat} (h : D.contains j = true) {w w' : World} (k : R2 w w') : Rj R1 R2 D j w w' := by unfold Rj; rw [if_pos h]; exact k
theorem Rj_out {R1 R2 : World → World → Prop} {D : List Nat} {j : Nat} (h : D.contains j = false) {w w' : World} (k : R1 w w') : Rj R1 R2 D j w w' := by unfold Rj; rw [if_neg (by rw [h]; simp)]; exact k

section
variable {P : Program} {ops : Array Oper} {Q : Exit → Act → World → Prop} {md : Region.Mode} {R1 R2 S : World → World → Prop} {D : List Nat}
def wpAnyU (P : Program) (md : Region.Mode) (ops : Array Oper) (Q : Exit → Act → World → Prop) (R1 R2 : World → World → Prop) (D : List Nat) : Nat → Array Bool → Act → World → Prop
  | 0, listed, a, w => Region.ready md ops listed = [] ∧ Q .normal a w
  | fuel + 1, listed, a, w =>
    (Region.ready md ops listed = [] → Q .normal a w) ∧
    ∀ i ∈ Region.ready md ops listed, wpOp P ops Q i (fun a' w'' => Rj R1 R2 D i w w'' ∧ wpAnyU P md ops Q R1 R2 D fuel (listed.setIfInBounds i true) a' w'') a w

theorem wpAny_of_U : ∀ (fuel : Nat) (listed : Array Bool) (a : Act) (w : World), wpAnyU P md ops Q R1 R2 D fuel listed a w → wpAny P md ops Q fuel listed a w
  | 0, _, _, _, h => h
  | fuel + 1, _, _, _, h => ⟨h.1, fun i hi => wpOp_mono (fun a' w' h' => wpAny_of_U fuel _ a' w' h'.2) (h.2 i hi)⟩

theorem wpAnyU_first (hre : ∀ a, S a a) (ht : ∀ a b c, S a b → S b c → S a c) {i : Nat} {oi : Oper} {v : Value} (hi : ops[i]? = some oi) (hself : ∀ w, Rj R1 R2 D i w w) (hsel : ∀ (j : Nat) (o : Oper) cs b, ops[j]? = some o → o.op ≠ .select cs b)
    (hQ : ∀ c a w, Q (.panic c) (a.put oi.dst v) w → Q (.panic c) a w) (Inv : Array Bool → Prop)
    (hInv : ∀ listed, Inv listed → listed.getD i true = false → ∀ j ∈ Region.ready md ops listed, j ≠ i → (∀ w w', Rj R1 R2 D j w w' → S w w') ∧ Inv (listed.setIfInBounds j true)) :
    ∀ (fuel : Nat) (listed : Array Bool) (a : Act) (w : World), Inv listed →
      (∀ j oj, ops[j]? = some oj → j ≠ i → listed.getD j true = false → (∀ e ∈ oj.after, Region.binds md e = true → e.on ≠ i) → oi.apart ops oj = true) →
      i ∈ Region.ready md ops listed → GivesG P ops S oi v a w →
      wpAnyU P md ops Q R1 R2 D fuel (listed.setIfInBounds i true) (a.put oi.dst v) w → wpAnyU P md ops Q R1 R2 D (fuel + 1) listed a w := by
  intro fuel
  induction fuel with
  | zero =>
    intro listed a w _ _ hr hy H
    refine ⟨fun h => (by rw [h] at hr; cases hr), fun j hj => ?_⟩
    by_cases hji : j = i
    · subst hji; exact hy.wpOp hre hi ⟨hself _, H⟩
    · have := ready_mono hj hji
      rw [H.1] at this
      cases this
  | succ fuel ih =>
    intro listed a w hinv hfree hr hy H
    refine ⟨fun h => (by rw [h] at hr; cases hr), fun j hj => ?_⟩
    by_cases hji : j = i
    · subst hji; exact hy.wpOp hre hi ⟨hself _, H⟩
    · have h1 := H.2 j (ready_mono hj hji)
      obtain ⟨hjun, oj, hoj, hall⟩ := mem_ready.1 hj
      have hnot : ∀ e ∈ oj.after, Region.binds md e = true → e.on ≠ i := fun e he hb heq => by
        have h1 := hall e he hb
        have h0 := (mem_ready.1 hr).1
        rw [heq] at h1
        rcases Nat.lt_or_ge i listed.size with h' | h'
        · simp [h'] at h0 h1; rw [h0] at h1; cases h1
        · simp [Array.getElem?_eq_none h'] at h1
      have h2 := wpOp_putG hoj (hfree j oj hoj hji hjun hnot) (fun cs b => hsel i oi cs b hi) (fun cs b => hsel j oj cs b hoj) hQ hy h1
      have hfree' : ∀ k ok, ops[k]? = some ok → k ≠ i → (listed.setIfInBounds j true).getD k true = false →
          (∀ e ∈ ok.after, Region.binds md e = true → e.on ≠ i) → oi.apart ops ok = true := fun k ok hk hki hun hno => by
        refine hfree k ok hk hki ?_ hno
        by_cases hjk : j = k
        · subst hjk; exact hjun
        · rw [getD_set_ne true hjk] at hun; exact hun
      obtain ⟨hs, hinv'⟩ := hInv listed hinv (mem_ready.1 hr).1 j hj hji
      refine wpOp_mono (fun a' w'' h3 => ⟨h3.2.1, ih (listed.setIfInBounds j true) a' w'' hinv' hfree' (ready_mono hr (Ne.symm hji)) (h3.1.up ht (hs _ _ h3.2.1)) ?_⟩) h2
      rw [Array.setIfInBounds_comm _ _ hji]
      exact h3.2.2
/-- None of D can be taken as long as i is not. -/
def blocks (md : Region.Mode) (ops : Array Oper) (D : List Nat) (i : Nat) : Bool := D.all fun d => match ops[d]? with
  | some o => o.after.any fun e => Region.binds md e && (e.on == i || D.contains e.on)
  | none => false
theorem blocks_spec {i : Nat} (h : blocks md ops D i = true) {listed : Array Bool} (hi : listed.getD i true = false) (hD : ∀ d ∈ D, listed.getD d true = false) {j : Nat} (hj : j ∈ Region.ready md ops listed) : j ∉ D := fun hjD => by
  obtain ⟨_, o, ho, hall⟩ := mem_ready.1 hj
  unfold blocks at h
  rw [List.all_eq_true] at h
  have h1 := h j hjD
  rw [ho] at h1
  simp only [Array.any_eq_true] at h1
  obtain ⟨k, hk, he⟩ := h1
  simp only [Bool.and_eq_true, Bool.or_eq_true, beq_iff_eq] at he
  have hl := hall o.after[k] (Array.getElem_mem hk) he.1
  have no : ∀ x, listed.getD x true = false → listed.getD x false = true → False := fun x h0 h1 => by
    rcases Nat.lt_or_ge x listed.size with h' | h'
    · simp [h'] at h0 h1; rw [h0] at h1; cases h1
    · simp [Array.getElem?_eq_none h'] at h1
  rcases he.2 with e | e
  · rw [e] at hl
    exact no i hi hl
  · exact no _ (hD _ (by simpa using e)) hl
end

section
variable {P : Program} {l : List Oper} {Q : Exit → Act → World → Prop} {fuel : Nat} {listed : Array Bool} {a : Act} {w : World} {R1 R2 S : World → World → Prop} {D : List Nat}
/-- What is read ahead of those of D: none of B, among which they are, can be taken as long as it is not. -/
theorem anyU_val (hp : Pre R1) (i : Nat) (B : List Nat) {oi : Oper} (hi : nthOp l i = some oi) (hiD : D.contains i = false) (hsub : D.all (fun d => B.contains d) = true) (hbl : blocks .any l.toArray B i = true) (hun : B.all (fun d => !(listed.getD d true)) = true)
    (hs : Region.noSelect l.toArray = true) (hf : Region.free .any l.toArray listed i = true) (hr : (Region.ready .any l.toArray listed).contains i = true)
    (hQ : ∀ v c a w, Q (.panic c) (a.put oi.dst v) w → Q (.panic c) a w) (hg : Region.wanted oi (yielded l.toArray a.tmps) = true)
    (h : ∃ v, (∀ w', R1 w w' → (execOp a.eval oi).run P w' = .ok (.value v) w') ∧ wpAnyU P .any l.toArray Q R1 R2 D fuel (listed.setIfInBounds i true) (a.put oi.dst v) w) : wpAnyU P .any l.toArray Q R1 R2 D (fuel + 1) listed a w := by
  obtain ⟨v, h1, h2⟩ := h
  have hi' : l.toArray[i]? = some oi := by rw [← hi, nthOp_eq]; simp
  have hunp : ∀ d ∈ B, listed.getD d true = false := fun d hd => by
    have := List.all_eq_true.1 hun d hd
    simpa using this
  refine wpAnyU_first (S := R1) hp.1 hp.2 hi' (fun w => Rj_out hiD (hp.1 w)) (Region.noSelect_spec hs) (hQ v) (fun listed => ∀ d ∈ B, listed.getD d true = false) ?_ fuel listed a w hunp (Region.free_spec hi' hf) (by simpa using hr) ⟨hg, h1⟩ h2
  intro listed' hinv hiu j hj hji
  have hjB := blocks_spec hbl hiu hinv hj
  have hjD : j ∉ D := fun hd => hjB (by simpa using List.all_eq_true.1 hsub j hd)
  have hjc : D.contains j = false := by cases hc : D.contains j with | false => rfl | true => exact absurd (by simpa using hc) hjD
  refine ⟨fun w w' hR => by unfold Rj at hR; rw [if_neg (by rw [hjc]; simp)] at hR; exact hR, fun d hd => ?_⟩
  by_cases hdj : j = d
  · subst hdj; exact absurd hd hjB
  · rw [getD_set_ne true hdj]; exact hinv d hd
/-- What hangs on no memory. -/
theorem anyU_pure (h1r : ∀ w, R1 w w) (h2r : ∀ w, R2 w w) (i : Nat) {oi : Oper} (hi : nthOp l i = some oi)
    (hs : Region.noSelect l.toArray = true) (hf : Region.free .any l.toArray listed i = true) (hr : (Region.ready .any l.toArray listed).contains i = true)
    (hQ : ∀ v c a w, Q (.panic c) (a.put oi.dst v) w → Q (.panic c) a w) (hg : Region.wanted oi (yielded l.toArray a.tmps) = true)
    (h : ∃ v, (∀ w', (execOp a.eval oi).run P w' = .ok (.value v) w') ∧ wpAnyU P .any l.toArray Q R1 R2 D fuel (listed.setIfInBounds i true) (a.put oi.dst v) w) : wpAnyU P .any l.toArray Q R1 R2 D (fuel + 1) listed a w := by
  obtain ⟨v, h1, h2⟩ := h
  have hi' : l.toArray[i]? = some oi := by rw [← hi, nthOp_eq]; simp
  exact wpAnyU_first (S := fun _ _ => True) (fun _ => trivial) (fun _ _ _ _ _ => trivial) hi' (fun w => by unfold Rj; split; (· exact h2r w); (· exact h1r w)) (Region.noSelect_spec hs) (hQ v) (fun _ => True) (fun _ _ _ _ _ _ => ⟨fun _ _ _ => trivial, trivial⟩) fuel listed a w trivial (Region.free_spec hi' hf) (by simpa using hr) ⟨hg, fun w' _ => h1 w'⟩ h2
theorem anyU_begin {id : Nat} (n : Nat) (hn : l.length = n) (hm : P.follows .mixedOrders = true)
    (h : wpAnyU P .any l.toArray Q R1 R2 D n (Array.replicate n false) a w.drew) : (Code.region id l.toArray true).wp P Q a w := by
  subst hn
  refine wp_region_any hm (wpAny_of_U (R1 := R1) (R2 := R2) (D := D) _ _ _ _ ?_)
  simpa using h
theorem anyU_done (hr : Region.ready .any l.toArray listed = []) (h : Q .normal a w) : wpAnyU P .any l.toArray Q R1 R2 D fuel listed a w := by
  cases fuel with
  | zero => exact ⟨hr, h⟩
  | succ n => exact ⟨fun _ => h, by rw [hr]; simp⟩
theorem anyU_one (i : Nat) {oi : Oper} (hi : nthOp l i = some oi) (hr : Region.ready .any l.toArray listed = [i]) (hg : Region.wanted oi (yielded l.toArray a.tmps) = true)
    (h1 : oi.wp P a w (fun a' w'' => Rj R1 R2 D i w w'' ∧ wpAnyU P .any l.toArray Q R1 R2 D fuel (listed.setIfInBounds i true) a' w'') Q) :
    wpAnyU P .any l.toArray Q R1 R2 D (fuel + 1) listed a w := by
  have hi' : l.toArray[i]? = some oi := by rw [← hi, nthOp_eq]; simp
  refine ⟨fun h0 => (by rw [hr] at h0; cases h0), fun k hk => ?_⟩
  rw [hr] at hk
  unfold wpOp
  obtain rfl : k = i := by simpa using hk
  rw [hi']; simp only [hg, if_true]; exact .inl h1
end
end Go.Proofs.Ytahphjindjlcpaa

/- The document's Put. -/
namespace Go.Proofs.Ytahphjindjlcpaa
open Go.RowKit Go.Shelf
set_option maxRecDepth 100000
set_option linter.unusedVariables false
set_option linter.unusedSimpArgs false

theorem info_drow : (Try.prog.info? 86).map (fun i => (i.zero, i.size, i.bytes)) = some (some (.agg #[.int .u8 0, .int .u32 0, .int .u32 0, .int .u16 0, .int .u16 0, .int .i64 0, .int .i64 0, .int .i64 0]), 8, 40) := by kernel_rfl

theorem new_drow (W : World) (x : Rw) : ∀ j u, (rwc x)[j]? = some u → (W.alloc (.cells (rwc x).toArray 86)).cell? ((⟨W.heap.size, 0, none⟩ : Addr).add j) = some u := fun j u hj => by
  rw [show (⟨W.heap.size, 0, none⟩ : Addr).add j = ⟨W.heap.size, j, none⟩ from by unfold Addr.add; split <;> simp_all, block_cell (heap_alloc_new W _) j]
  simpa using hj
/-- What the document's Put answers. -/
def rpe (lim : Int) (l : List Rw) (p s d a b till : Int) : Int := if mayb till = false then 2 else if kix p s d (kyp p a) b l ≠ none then 10 else if lim ≤ l.length then 9 else 0
/-- How a change of the document's table leaves it. -/
def DTq (base : Nat) (w w' : World) (b : Nat) (v : Value) (lim sq : Int) (l : List Rw) : Prop := ∃ v', DT base w' b v' lim sq l ∧ But (fun g => g = b ∨ v.ownBlock = some g) w w' ∧ (v'.ownBlock = v.ownBlock ∨ ∀ g, v'.ownBlock = some g → w.heap.size ≤ g)
theorem DTq.same {base : Nat} {w w' : World} {b : Nat} {v : Value} {lim sq : Int} {l : List Rw} (h : DT base w b v lim sq l) (k : Later w w') : DTq base w w' b v lim sq l := ⟨v, h.later k, But.of k, .inl rfl⟩

set_option maxHeartbeats 8000000 in
theorem rput_any (base bt : Nat) (v : Value) (lim sq : Int) (l : List Rw) (p s d a b id till : Int) (w : World) (hT : DT base w bt v lim sq l) (hl : l.length ≤ 5000) (hsq : 0 ≤ sq ∧ sq ≤ 1000000) (hbs : base ≤ w.heap.size) :
    Calls Try.prog 28 #[.pointer (some ⟨bt, 0, none⟩), .agg #[.int .u8 p, .int .u32 s, .int .u32 d, .int .u16 a, .int .u16 b], .int .i64 id, .int .i64 till] w fun e w' => e = .returned (.int .i64 (rpe lim l p s d a b till)) ∧
      ((rpe lim l p s d a b till ≠ 0 ∧ DTq base w w' bt v lim sq l) ∨ (rpe lim l p s d a b till = 0 ∧ DTq base w w' bt v lim (sq + 1) (l ++ [⟨p, s, d, kyp p a, b, id, till, sq + 1⟩]))) := by
  obtain ⟨i0, hi0, hz0, hz1, hz2⟩ := info_parts info_drow
  have lb0 : Later w (w.alloc (.cells #[.int .u8 p, .int .u32 s, .int .u32 d, .int .u16 a, .int .u16 b] 26)) := (Below.refl _ _).alloc (Nat.le_refl _) _
  have t0 := heap_alloc_new w (.cells #[.int .u8 p, .int .u32 s, .int .u32 d, .int .u16 a, .int .u16 b] 26)
  obtain ⟨av, cv, rfl, hcv1, hcv2⟩ := (ownD_rd hT.2.2).slice
  have HAT := hide (fun W (hW : Later w W) => at_any base bt _ lim sq l p s d a b W (hT.later hW))
  go_enter Try.func28, Try.ntmps28
  cases hmb : mayb till with
  | false =>
    have hpe : rpe lim l p s d a b till = 2 := by unfold rpe; rw [if_pos hmb]
    have HPE := hide hpe
    have hmb' : till < 0 ∨ 1099511627776 < till := by unfold mayb at hmb; simp at hmb; omega
    clear hpe hmb
    by_cases h0 : till < 0
    · clear hmb'
      go_wp2_with fail
      go_ret
      exact ⟨by rw [HPE.out]; rfl, .inl ⟨by rw [HPE.out]; omega, DTq.same hT lb0⟩⟩
    · have h1 : 1099511627776 < till := by omega
      clear hmb'
      go_wp2_with fail
      go_ret
      exact ⟨by rw [HPE.out]; rfl, .inl ⟨by rw [HPE.out]; omega, DTq.same hT lb0⟩⟩
  | true =>
    have hmb' : 0 ≤ till ∧ till ≤ 1099511627776 := by unfold mayb at hmb; simpa using hmb
    have h0 : ¬ till < 0 := by omega
    have h1 : ¬ 1099511627776 < till := by omega
    have HMB := hide hmb
    have k0 := block_cell t0
    clear hmb hmb'
    go_wp2_with fail
    generalize w.alloc _ = w0 at *
    refine (HAT.out w0 lb0).mono ?_
    rintro e w1 ⟨rfl, l1⟩
    have L1 := lb0.trans l1
    clear k0
    cases hkx : kix p s d (kyp p a) b l with
    | some k =>
      have hpe : rpe lim l p s d a b till = 10 := by unfold rpe; rw [HMB.out, hkx]; simp
      have HPE := hide hpe
      clear hpe hkx
      rw [rix_some]
      have hk0 : (0 : Int) ≤ (k : Int) := by omega
      go_wp2_with fail
      go_ret
      exact ⟨by rw [HPE.out]; rfl, .inl ⟨by rw [HPE.out]; omega, DTq.same hT L1⟩⟩
    | none =>
      have HKX := hide hkx
      clear hkx
      rw [rix_none]
      have hT1 := hT.later L1
      have kT := block_cell hT1.2.1
      have t1 := later_keep l1 t0
      go_upto_region 7 with fail
      by_cases hfull : lim ≤ l.length
      · have hpe : rpe lim l p s d a b till = 9 := by unfold rpe; rw [HMB.out, HKX.out, if_neg (by simp), if_neg (by simp), if_pos hfull]
        have HPE := hide hpe
        clear hpe
        go_quiet (fail)
        go_wp2_with fail
        go_ret
        exact ⟨by rw [HPE.out]; rfl, .inl ⟨by rw [HPE.out]; omega, DTq.same hT (L1.trans (below_draw (Later.refl _) _))⟩⟩
      · have hpe : rpe lim l p s d a b till = 0 := by unfold rpe; rw [HMB.out, HKX.out, if_neg (by simp), if_neg (by simp), if_neg hfull]
        have HPE := hide hpe
        clear hpe
        go_quiet (fail)
        have lq : Later w1 (w1.drewN nq) := below_draw (Later.refl _) _
        have L2 := L1.trans lq
        have t2 := later_keep lq t1
        clear kT
        generalize w1.drewN nq = w2 at *
        have hT2 := hT.later L2
        have kT := block_cell hT2.2.1
        have fT := block_frozen hT2.2.1
        have c1 : sq + 1 ≤ 9223372036854775807 := by omega
        go_upto_region 10 with fail
        have hV3 := heap_set1 hT2.2.1 2 (.int .i64 (sq + 1))
        have hbV1 : But (fun g => g = bt) w2 (w2.setCell ⟨bt, 2, none⟩ (.int .i64 (sq + 1))) := (But.refl (fun g => g = bt) _).setCell (p := ⟨bt, 2, none⟩) rfl _
        generalize w2.setCell ⟨bt, 2, none⟩ (.int .i64 (sq + 1)) = w3 at *
        clear kT fT
        have hgb : ∀ g, Value.ownBlock (.slice av l.length cv) = some g → g ≠ bt := fun g hg e => hT.ne hT.2.1 (by decide) (by rw [← e]; exact hg)
        have hT3 : DT base w3 bt (.slice av l.length cv) lim (sq + 1) l := by
          refine ⟨hT.1, hV3, ?_⟩
          obtain ⟨q1, q2 | ⟨g, cap, cur, e, q2, q3, q4⟩⟩ := hT2.2.2
          · exact ⟨q1, .inl q2⟩
          · exact ⟨q1, .inr ⟨g, cap, cur, e, q2, (hbV1.block g (Array.getElem?_eq_some_iff.1 q3).1 (hgb g (by rw [e]; rfl))).trans q3, q4⟩⟩
        have hxb : w.heap.size ≠ bt := fun e => by have := hT.blt; omega
        have t3 := (hbV1.block w.heap.size (Array.getElem?_eq_some_iff.1 t2).1 hxb).trans t2
        have B3 : But (fun g => g = bt ∨ Value.ownBlock (.slice av l.length cv) = some g) w w3 := (But.of L2).trans ⟨hbV1.os, hbV1.tape, hbV1.output, hbV1.size, fun k hk he => hbV1.block k hk (fun e => he (.inl e))⟩
        refine anyU_begin (R1 := Later) (R2 := But (fun g => g = bt ∨ Value.ownBlock (.slice av l.length cv) = some g)) (D := [15, 18]) 19 rfl (by kernel_rfl) ?_
        have ld : Later w3 w3.drew := Later.drew w3
        have td := later_keep ld t3
        have hTd := hT3.later ld
        have B4 := B3.trans (But.of ld)
        generalize w3.drew = Wd at *
        have hA : ∀ v1, Later Wd v1 → ∀ j, v1.cell? ⟨w.heap.size, j, none⟩ = #[Value.int .u8 p, .int .u32 s, .int .u32 d, .int .u16 a, .int .u16 b][j]? := fun v1 hv => block_cell (later_keep hv td)
        have hB : ∀ v1, Later Wd v1 → ∀ j, v1.cell? ⟨bt, j, none⟩ = #[Value.slice av l.length cv, .int .i64 lim, .int .i64 (sq + 1)][j]? := fun v1 hv => block_cell (later_keep hv hTd.2.1)
        refine anyU_pure Later.refl (But.refl _) 0 rfl (by kernel_rfl) (by kernel_rfl) (by kernel_rfl) (fun _ _ _ _ h => h) (by rfl) ?_; apply Exists.intro; refine ⟨fun v1 => ?_, ?_⟩; (· (go_simp; rfl)); simp only [Act.put, List.setIfInBounds_toArray, List.set_cons_zero, List.set_cons_succ]
        refine anyU_pure Later.refl (But.refl _) 1 rfl (by kernel_rfl) (by kernel_rfl) (by kernel_rfl) (fun _ _ _ _ h => h) (by rfl) ?_; apply Exists.intro; refine ⟨fun v1 => ?_, ?_⟩; (· (go_simp; rfl)); simp only [Act.put, List.setIfInBounds_toArray, List.set_cons_zero, List.set_cons_succ]
        refine anyU_pure Later.refl (But.refl _) 2 rfl (by kernel_rfl) (by kernel_rfl) (by kernel_rfl) (fun _ _ _ _ h => h) (by rfl) ?_; apply Exists.intro; refine ⟨fun v1 => ?_, ?_⟩; (· (go_simp; rfl)); simp only [Act.put, List.setIfInBounds_toArray, List.set_cons_zero, List.set_cons_succ]
        refine anyU_pure Later.refl (But.refl _) 3 rfl (by kernel_rfl) (by kernel_rfl) (by kernel_rfl) (fun _ _ _ _ h => h) (by rfl) ?_; apply Exists.intro; refine ⟨fun v1 => ?_, ?_⟩; (· (go_simp; rfl)); simp only [Act.put, List.setIfInBounds_toArray, List.set_cons_zero, List.set_cons_succ]
        refine anyU_val Later.pre 4 [15, 18] rfl (by rfl) (by rfl) (by kernel_rfl) (by kernel_rfl) (by kernel_rfl) (by kernel_rfl) (by kernel_rfl) (fun _ _ _ _ h => h) (by rfl) ?_; apply Exists.intro; refine ⟨fun v1 hv1 => ?_, ?_⟩; (· (go_simp; rfl)); simp only [Act.put, List.setIfInBounds_toArray, List.set_cons_zero, List.set_cons_succ]
        refine anyU_val Later.pre 5 [6, 13, 14, 15, 18] rfl (by rfl) (by rfl) (by kernel_rfl) (by kernel_rfl) (by kernel_rfl) (by kernel_rfl) (by kernel_rfl) (fun _ _ _ _ h => h) (by rfl) ?_; apply Exists.intro; refine ⟨fun v1 hv1 => ?_, ?_⟩; (· (go_simp; rfl)); simp only [Act.put, List.setIfInBounds_toArray, List.set_cons_zero, List.set_cons_succ]
        refine anyU_pure Later.refl (But.refl _) 7 rfl (by kernel_rfl) (by kernel_rfl) (by kernel_rfl) (fun _ _ _ _ h => h) (by rfl) ?_; apply Exists.intro; refine ⟨fun v1 => ?_, ?_⟩; (· (go_simp; rfl)); simp only [Act.put, List.setIfInBounds_toArray, List.set_cons_zero, List.set_cons_succ]
        refine anyU_pure Later.refl (But.refl _) 8 rfl (by kernel_rfl) (by kernel_rfl) (by kernel_rfl) (fun _ _ _ _ h => h) (by rfl) ?_; apply Exists.intro; refine ⟨fun v1 => ?_, ?_⟩; (· (go_simp; rfl)); simp only [Act.put, List.setIfInBounds_toArray, List.set_cons_zero, List.set_cons_succ]
        refine anyU_pure Later.refl (But.refl _) 9 rfl (by kernel_rfl) (by kernel_rfl) (by kernel_rfl) (fun _ _ _ _ h => h) (by rfl) ?_; apply Exists.intro; refine ⟨fun v1 => ?_, ?_⟩; (· (go_simp; rfl)); simp only [Act.put, List.setIfInBounds_toArray, List.set_cons_zero, List.set_cons_succ]
        refine anyU_pure Later.refl (But.refl _) 10 rfl (by kernel_rfl) (by kernel_rfl) (by kernel_rfl) (fun _ _ _ _ h => h) (by rfl) ?_; apply Exists.intro; refine ⟨fun v1 => ?_, ?_⟩; (· (go_simp; rfl)); simp only [Act.put, List.setIfInBounds_toArray, List.set_cons_zero, List.set_cons_succ]
        refine anyU_pure Later.refl (But.refl _) 11 rfl (by kernel_rfl) (by kernel_rfl) (by kernel_rfl) (fun _ _ _ _ h => h) (by rfl) ?_; apply Exists.intro; refine ⟨fun v1 => ?_, ?_⟩; (· (go_simp; rfl)); simp only [Act.put, List.setIfInBounds_toArray, List.set_cons_zero, List.set_cons_succ]
        refine anyU_val Later.pre 12 [13, 14, 15, 18] rfl (by rfl) (by rfl) (by kernel_rfl) (by kernel_rfl) (by kernel_rfl) (by kernel_rfl) (by kernel_rfl) (fun _ _ _ _ h => h) (by rfl) ?_; apply Exists.intro; refine ⟨fun v1 hv1 => ?_, ?_⟩; (· (go_simp; rfl)); simp only [Act.put, List.setIfInBounds_toArray, List.set_cons_zero, List.set_cons_succ]
        clear hA hB
        refine anyU_one 6 rfl (by kernel_rfl) (by rfl) ?_
        refine wp_enter 45 #[.agg #[.int .u8 p, .int .u32 s, .int .u32 d, .int .u16 a, .int .u16 b]] (by go_simp) ?_
        refine (rkey_any p s d a b Wd).mono ?_
        rintro e W1 ⟨rfl, hb1⟩
        have m1 : Later Wd W1 := hb1
        refine ⟨Rj_out (by rfl) m1, ?_⟩
        simp only [Act.put, List.setIfInBounds_toArray, List.set_cons_zero, List.set_cons_succ]
        refine anyU_pure Later.refl (But.refl _) 13 rfl (by kernel_rfl) (by kernel_rfl) (by kernel_rfl) (fun _ _ _ _ h => h) (by rfl) ?_; apply Exists.intro; refine ⟨fun v1 => ?_, ?_⟩; (· (go_simp; rfl)); simp only [Act.put, List.setIfInBounds_toArray, List.set_cons_zero, List.set_cons_succ]
        refine anyU_one 14 rfl (by kernel_rfl) (by rfl) ?_
        unfold Oper.wp
        go_simp
        have l2 : Later W1 (W1.alloc (.cells (rwc ⟨p, s, d, kyp p a, b, id, till, sq + 1⟩).toArray 86)) := (Below.refl _ _).alloc (Nat.le_refl _) _
        have HN1 := new_drow W1 ⟨p, s, d, kyp p a, b, id, till, sq + 1⟩
        have LL := m1.trans l2
        refine ⟨Rj_out (by rfl) l2, ?_⟩
        change wpAnyU _ _ _ _ _ _ _ _ _ _ (W1.alloc (.cells (rwc ⟨p, s, d, kyp p a, b, id, till, sq + 1⟩).toArray 86))
        generalize W1.alloc (.cells (rwc ⟨p, s, d, kyp p a, b, id, till, sq + 1⟩).toArray 86) = W5 at *
        generalize W1.heap.size = gn at *
        have hT5 := hTd.later LL
        have hs5 : w.heap.size ≤ W5.heap.size := Nat.le_trans B4.size LL.size
        refine anyU_one 15 rfl (by kernel_rfl) (by rfl) ?_
        refine wp_append_lies W5 (.tmp 46) (.tmp 56) 67 rfl base 86 i0 (.agg #[.int .u8 0, .int .u32 0, .int .u32 0, .int .u16 0, .int .u16 0, .int .i64 0, .int .i64 0, .int .i64 0]) 8 40 Try.underlying67 hi0 hz0 hz1 hz2 rfl (by decide) (.slice av l.length cv) l.length (rws l) rfl hT5.2.2 ⟨gn, 0, none⟩ 1 1 (rwc ⟨p, s, d, kyp p a, b, id, till, sq + 1⟩) rfl rfl HN1 (by intro u hu; simp only [rwc, List.mem_cons, List.not_mem_nil, or_false] at hu; rcases hu with rfl | rfl | rfl | rfl | rfl | rfl | rfl | rfl <;> rfl) (by omega) (by unfold maxLen; omega) (by omega) (by omega) _ rfl ?_
        intro g' cap' W6 hrow6 hg6 hpl hlt6
        have hb6 : But (fun g => g = bt ∨ Value.ownBlock (.slice av l.length cv) = some g) W5 W6 := ⟨hg6.os, hg6.tape, hg6.output, hg6.size, fun k hk he => hg6.block k hk (fun e => he (.inr e.symm))⟩
        refine ⟨Rj_in (by rfl) hb6, ?_⟩
        simp only [Act.put, List.setIfInBounds_toArray, List.set_cons_zero, List.set_cons_succ]
        have h6 : W6.heap[bt]? = some (.cells #[.slice av l.length cv, .int .i64 lim, .int .i64 (sq + 1)] 69 (0, 0)) := (hg6.block bt (Array.getElem?_eq_some_iff.1 hT5.2.1).1 (fun e => hgb bt e.symm rfl)).trans hT5.2.1
        have k6 := block_cell h6
        have f6 := block_frozen h6
        refine anyU_pure Later.refl (But.refl _) 16 rfl (by kernel_rfl) (by kernel_rfl) (by kernel_rfl) (fun _ _ _ _ h => h) (by rfl) ?_; apply Exists.intro; refine ⟨fun v1 => ?_, ?_⟩; (· (go_simp; rfl)); simp only [Act.put, List.setIfInBounds_toArray, List.set_cons_zero, List.set_cons_succ]
        refine anyU_pure Later.refl (But.refl _) 17 rfl (by kernel_rfl) (by kernel_rfl) (by kernel_rfl) (fun _ _ _ _ h => h) (by rfl) ?_; apply Exists.intro; refine ⟨fun v1 => ?_, ?_⟩; (· (go_simp; rfl)); simp only [Act.put, List.setIfInBounds_toArray, List.set_cons_zero, List.set_cons_succ]
        refine anyU_one 18 rfl (by kernel_rfl) (by rfl) ?_
        unfold Oper.wp
        go_simp
        generalize hV : W6.setCell ⟨bt, 0, none⟩ _ = V
        have hV4 := heap_set1 h6 0 (.slice (some ⟨g', 0, none⟩) (l.length + 1) cap')
        rw [hV] at hV4
        have hbV2 : But (fun g => g = bt ∨ Value.ownBlock (.slice av l.length cv) = some g) W6 V := by rw [← hV]; exact (But.refl (fun g => g = bt ∨ Value.ownBlock (.slice av l.length cv) = some g) _).setCell (p := ⟨bt, 0, none⟩) (.inl rfl) _
        have hbV3 : But (fun g => g = bt) W6 V := by rw [← hV]; exact (But.refl (fun g => g = bt) _).setCell (p := ⟨bt, 0, none⟩) rfl _
        refine ⟨Rj_in (by rfl) hbV2, ?_⟩
        clear hV k6 f6
        refine anyU_done (by kernel_rfl) ?_
        have hfin : DTq base w V bt (.slice av l.length cv) lim (sq + 1) (l ++ [⟨p, s, d, kyp p a, b, id, till, sq + 1⟩]) := by
          refine ⟨.slice (some ⟨g', 0, none⟩) (l.length + 1) cap', ⟨hT.1, hV4, ?_⟩, B4.trans ((But.of LL).trans (hb6.trans hbV2)), ?_⟩
          · rw [rws_append, List.length_append, List.length_singleton, show rws [(⟨p, s, d, kyp p a, b, id, till, sq + 1⟩ : Rw)] = rwc ⟨p, s, d, kyp p a, b, id, till, sq + 1⟩ from by simp [rws]]
            obtain ⟨q1, ⟨q2, q3⟩ | ⟨g, cap, cur, hv, hgb2, hh, q⟩⟩ := hrow6
            · simp at q2
            · refine ⟨q1, .inr ⟨g, cap, cur, hv, hgb2, (hbV3.block g (Array.getElem?_eq_some_iff.1 hh).1 (fun e => ?_)).trans hh, q⟩⟩
              subst e
              rw [h6] at hh
              simp at hh
          · rcases hpl with h | h
            · exact .inl h.symm
            · refine .inr (fun g hg => ?_)
              have : g' = g := by simpa [Value.ownBlock] using hg
              omega
        have HF := hide hfin
        clear hfin
        go_wp2_with fail
        go_ret
        exact ⟨by rw [HPE.out]; rfl, .inr ⟨HPE.out, HF.out⟩⟩
end Go.Proofs.Ytahphjindjlcpaa

/- The document's Move. -/
namespace Go.Proofs.Ytahphjindjlcpaa
open Go.RowKit Go.Shelf
set_option maxRecDepth 100000
set_option linter.unusedVariables false
set_option linter.unusedSimpArgs false

/-- What the document's Move answers. -/
def rme (l : List Rw) (p s d a b till : Int) : Int := if mayb till = false then 2 else if kix p s d (kyp p a) b l = none then 11 else 0
theorem kix_lt {kp ks kd ka kb : Int} {l : List Rw} {k : Nat} (h : kix kp ks kd ka kb l = some k) : k < l.length := by
  unfold kix at h
  rw [List.findIdx?_eq_some_iff_getElem] at h
  exact h.1

set_option maxHeartbeats 8000000 in
theorem rmove_any (base bt : Nat) (v : Value) (lim sq : Int) (l : List Rw) (p s d a b till : Int) (w : World) (hT : DT base w bt v lim sq l) (hl : l.length ≤ 5000) (hsq : 0 ≤ sq ∧ sq ≤ 1000000) (hbs : base ≤ w.heap.size) :
    Calls Try.prog 29 #[.pointer (some ⟨bt, 0, none⟩), .agg #[.int .u8 p, .int .u32 s, .int .u32 d, .int .u16 a, .int .u16 b], .int .i64 till] w fun e w' => e = .returned (.int .i64 (rme l p s d a b till)) ∧
      ((rme l p s d a b till ≠ 0 ∧ DTq base w w' bt v lim sq l) ∨ (rme l p s d a b till = 0 ∧ ∃ k, kix p s d (kyp p a) b l = some k ∧ DTq base w w' bt v lim (sq + 1) (l.modify k (fun r => { r with till := till, turn := sq + 1 })))) := by
  have lb0 : Later w (w.alloc (.cells #[.int .u8 p, .int .u32 s, .int .u32 d, .int .u16 a, .int .u16 b] 26)) := (Below.refl _ _).alloc (Nat.le_refl _) _
  have t0 := heap_alloc_new w (.cells #[.int .u8 p, .int .u32 s, .int .u32 d, .int .u16 a, .int .u16 b] 26)
  obtain ⟨av, cv, rfl, hcv1, hcv2⟩ := (ownD_rd hT.2.2).slice
  have HAT := hide (fun W (hW : Later w W) => at_any base bt _ lim sq l p s d a b W (hT.later hW))
  go_enter Try.func29, Try.ntmps29
  cases hmb : mayb till with
  | false =>
    have hpe : rme l p s d a b till = 2 := by unfold rme; rw [if_pos hmb]
    have HPE := hide hpe
    have hmb' : till < 0 ∨ 1099511627776 < till := by unfold mayb at hmb; simp at hmb; omega
    clear hpe hmb
    by_cases h0 : till < 0
    · clear hmb'
      go_wp2_with fail
      go_ret
      exact ⟨by rw [HPE.out]; rfl, .inl ⟨by rw [HPE.out]; omega, DTq.same hT lb0⟩⟩
    · have h1 : 1099511627776 < till := by omega
      clear hmb'
      go_wp2_with fail
      go_ret
      exact ⟨by rw [HPE.out]; rfl, .inl ⟨by rw [HPE.out]; omega, DTq.same hT lb0⟩⟩
  | true =>
    have hmb' : 0 ≤ till ∧ till ≤ 1099511627776 := by unfold mayb at hmb; simpa using hmb
    have h0 : ¬ till < 0 := by omega
    have h1 : ¬ 1099511627776 < till := by omega
    have HMB := hide hmb
    have k0 := block_cell t0
    clear hmb hmb'
    go_wp2_with fail
    generalize w.alloc _ = w0 at *
    refine (HAT.out w0 lb0).mono ?_
    rintro e w1 ⟨rfl, l1⟩
    have L1 := lb0.trans l1
    clear k0
    cases hkx : kix p s d (kyp p a) b l with
    | none =>
      have hpe : rme l p s d a b till = 11 := by unfold rme; rw [HMB.out, hkx]; simp
      have HPE := hide hpe
      clear hpe hkx
      rw [rix_none]
      go_wp2_with fail
      go_ret
      exact ⟨by rw [HPE.out]; rfl, .inl ⟨by rw [HPE.out]; omega, DTq.same hT L1⟩⟩
    | some k =>
      have hpe : rme l p s d a b till = 0 := by unfold rme; rw [HMB.out, hkx]; simp
      have hkl := kix_lt hkx
      have HPE := hide hpe
      have HKX := hide hkx
      clear hpe hkx
      rw [rix_some]
      have hk0 : ¬ (k : Int) < 0 := by omega
      have hT1 := hT.later L1
      have kT := block_cell hT1.2.1
      have fT := block_frozen hT1.2.1
      have t1 := later_keep l1 t0
      have c1 : sq + 1 ≤ 9223372036854775807 := by omega
      go_upto_region 8 with fail
      have hV3 := heap_set1 hT1.2.1 2 (.int .i64 (sq + 1))
      have hbV1 : But (fun g => g = bt) w1 (w1.setCell ⟨bt, 2, none⟩ (.int .i64 (sq + 1))) := (But.refl (fun g => g = bt) _).setCell (p := ⟨bt, 2, none⟩) rfl _
      generalize w1.setCell ⟨bt, 2, none⟩ (.int .i64 (sq + 1)) = w3 at *
      clear kT fT
      obtain ⟨g, cap, rfl, rfl⟩ : ∃ g cap, av = some ⟨g, 0, none⟩ ∧ cv = cap := by
        obtain ⟨_, ⟨e, e2⟩ | ⟨g2, cap2, cur, e, _⟩⟩ := hT.2.2
        · omega
        · cases e
          exact ⟨g2, cv, rfl, rfl⟩
      have hgb : g ≠ bt := fun e => hT.ne hT.2.1 (by decide) (by rw [← e]; rfl)
      have hgl : g < w.heap.size := (hT.lt (g := g) rfl).2
      have hT3 : DT base w3 bt (.slice (some ⟨g, 0, none⟩) l.length cv) lim (sq + 1) l := by
        refine ⟨hT.1, hV3, ?_⟩
        obtain ⟨q1, q2 | ⟨g2, cap, cur, e, q2, q3, q4⟩⟩ := hT1.2.2
        · exact ⟨q1, .inl q2⟩
        · exact ⟨q1, .inr ⟨g2, cap, cur, e, q2, (hbV1.block g2 (Array.getElem?_eq_some_iff.1 q3).1 (by cases e; exact hgb)).trans q3, q4⟩⟩
      have hxb : w.heap.size ≠ bt := fun e => by have := hT.blt; omega
      have t3 := (hbV1.block w.heap.size (Array.getElem?_eq_some_iff.1 t1).1 hxb).trans t1
      have B3 : But (fun x => x = bt ∨ Value.ownBlock (.slice (some ⟨g, 0, none⟩) l.length cv) = some x) w w3 := (But.of L1).trans ⟨hbV1.os, hbV1.tape, hbV1.output, hbV1.size, fun k hk he => hbV1.block k hk (fun e => he (.inl e))⟩
      have k3 := block_cell t3
      go_wp2_with fail
      refine (at_any base bt _ lim (sq + 1) l p s d a b w3 hT3).mono ?_
      rw [HKX.out, rix_some]
      rintro e w4 ⟨rfl, l4⟩
      clear k3
      have hT4 := hT3.later l4
      have B4 := B3.trans (But.of l4)
      have hO4 := hT4.2.2
      have hkl' : (k : Int) < l.length := by omega
      have kT := block_cell hT4.2.1
      obtain ⟨cur, hcur, hcs⟩ : ∃ cur, w4.heap[g]? = some (.cells cur 86 (0, 0)) ∧ cur.size = cv * 8 := by
        obtain ⟨_, ⟨e, _⟩ | ⟨g2, cap2, cur, e, _, hh, _, _, hs, _⟩⟩ := hO4
        · cases e
        · cases e
          exact ⟨cur, hh, hs⟩
      have kc := block_cell hcur
      have fc := block_frozen hcur
      obtain ⟨u6, x6⟩ : ∃ u, w4.cell? ⟨g, k * 8 + 6, none⟩ = some u := ⟨cur[k * 8 + 6]'(by omega), by rw [kc]; simp⟩
      clear kc
      go_upto_region 10 with fail
      have hO5 := (hO4.stored (k * 8 + 6) (.int .i64 till)).1
      have hb5 : But (fun x => x = g) w4 (w4.setCell ⟨g, k * 8 + 6, none⟩ (.int .i64 till)) := (But.refl (fun x => x = g) _).setCell (p := ⟨g, k * 8 + 6, none⟩) rfl _
      have hbt5 : (w4.setCell ⟨g, k * 8 + 6, none⟩ (.int .i64 till)).heap[bt]? = _ := (hb5.block bt hT4.blt (fun e => hgb e.symm)).trans hT4.2.1
      generalize w4.setCell ⟨g, k * 8 + 6, none⟩ (.int .i64 till) = w5 at *
      clear kT x6 fc
      refine anyT_begin (R := But (fun x => x = g)) 12 rfl (by kernel_rfl) ?_
      have ld : Later w5 w5.drew := Later.drew w5
      have hbtd := later_keep ld hbt5
      have hOd := ownD_later hO5 ld
      have B5 : But (fun x => x = bt ∨ Value.ownBlock (.slice (some ⟨g, 0, none⟩) l.length cv) = some x) w w5.drew := B4.trans ((⟨hb5.os, hb5.tape, hb5.output, hb5.size, fun x hx he => hb5.block x hx (fun e => he (.inr (by rw [e]; rfl)))⟩ : But (fun x => x = bt ∨ Value.ownBlock (.slice (some ⟨g, 0, none⟩) l.length cv) = some x) w4 w5).trans (But.of ld))
      generalize w5.drew = Wd at *
      have hB : ∀ v1, But (fun x => x = g) Wd v1 → ∀ j, v1.cell? ⟨bt, j, none⟩ = #[Value.slice (some ⟨g, 0, none⟩) l.length cv, .int .i64 lim, .int .i64 (sq + 1)][j]? := fun v1 hv => block_cell ((hv.block bt (Array.getElem?_eq_some_iff.1 hbtd).1 (fun e => hgb e.symm)).trans hbtd)
      refine anyT_val (But.pre _) 0 rfl (by kernel_rfl) (by kernel_rfl) (by kernel_rfl) (fun _ _ _ _ h => h) rfl ?_; apply Exists.intro; refine ⟨fun v1 hv1 => ?_, ?_⟩; (· (go_simp; rfl)); simp only [Act.put, List.setIfInBounds_toArray, List.set_cons_zero, List.set_cons_succ]
      refine anyT_val (But.pre _) 1 rfl (by kernel_rfl) (by kernel_rfl) (by kernel_rfl) (fun _ _ _ _ h => h) rfl ?_; apply Exists.intro; refine ⟨fun v1 hv1 => ?_, ?_⟩; (· (go_simp; rfl)); simp only [Act.put, List.setIfInBounds_toArray, List.set_cons_zero, List.set_cons_succ]
      refine anyT_val (But.pre _) 2 rfl (by kernel_rfl) (by kernel_rfl) (by kernel_rfl) (fun _ _ _ _ h => h) rfl ?_; apply Exists.intro; refine ⟨fun v1 hv1 => ?_, ?_⟩; (· (go_simp; rfl)); simp only [Act.put, List.setIfInBounds_toArray, List.set_cons_zero, List.set_cons_succ]
      refine anyT_val (But.pre _) 3 rfl (by kernel_rfl) (by kernel_rfl) (by kernel_rfl) (fun _ _ _ _ h => h) rfl ?_; apply Exists.intro; refine ⟨fun v1 hv1 => ?_, ?_⟩; (· (go_simp; rfl)); simp only [Act.put, List.setIfInBounds_toArray, List.set_cons_zero, List.set_cons_succ]
      refine anyT_val (But.pre _) 4 rfl (by kernel_rfl) (by kernel_rfl) (by kernel_rfl) (fun _ _ _ _ h => h) rfl ?_; apply Exists.intro; refine ⟨fun v1 hv1 => ?_, ?_⟩; (· (go_simp; rfl)); simp only [Act.put, List.setIfInBounds_toArray, List.set_cons_zero, List.set_cons_succ]
      refine anyT_val (But.pre _) 5 rfl (by kernel_rfl) (by kernel_rfl) (by kernel_rfl) (fun _ _ _ _ h => h) rfl ?_; apply Exists.intro; refine ⟨fun v1 hv1 => ?_, ?_⟩; (· (go_simp; rfl)); simp only [Act.put, List.setIfInBounds_toArray, List.set_cons_zero, List.set_cons_succ]
      refine anyT_val (But.pre _) 6 rfl (by kernel_rfl) (by kernel_rfl) (by kernel_rfl) (fun _ _ _ _ h => h) rfl ?_; apply Exists.intro; refine ⟨fun v1 hv1 => ?_, ?_⟩; (· (go_simp; rfl)); simp only [Act.put, List.setIfInBounds_toArray, List.set_cons_zero, List.set_cons_succ]
      refine anyT_val (But.pre _) 7 rfl (by kernel_rfl) (by kernel_rfl) (by kernel_rfl) (fun _ _ _ _ h => h) rfl ?_; apply Exists.intro; refine ⟨fun v1 hv1 => ?_, ?_⟩; (· (go_simp; rfl)); simp only [Act.put, List.setIfInBounds_toArray, List.set_cons_zero, List.set_cons_succ]
      refine anyT_val (But.pre _) 8 rfl (by kernel_rfl) (by kernel_rfl) (by kernel_rfl) (fun _ _ _ _ h => h) rfl ?_; apply Exists.intro; refine ⟨fun v1 hv1 => ?_, ?_⟩; (· (go_simp; rfl)); simp only [Act.put, List.setIfInBounds_toArray, List.set_cons_zero, List.set_cons_succ]
      refine anyT_val (But.pre _) 9 rfl (by kernel_rfl) (by kernel_rfl) (by kernel_rfl) (fun _ _ _ _ h => h) rfl ?_; apply Exists.intro; refine ⟨fun v1 hv1 => ?_, ?_⟩; (· (go_simp; rfl)); simp only [Act.put, List.setIfInBounds_toArray, List.set_cons_zero, List.set_cons_succ]
      refine anyT_val (But.pre _) 10 rfl (by kernel_rfl) (by kernel_rfl) (by kernel_rfl) (fun _ _ _ _ h => h) rfl ?_; apply Exists.intro; refine ⟨fun v1 hv1 => ?_, ?_⟩; (· (go_simp; rfl)); simp only [Act.put, List.setIfInBounds_toArray, List.set_cons_zero, List.set_cons_succ]
      clear hB
      obtain ⟨cur2, hcur2, hcs2⟩ : ∃ cur, Wd.heap[g]? = some (.cells cur 86 (0, 0)) ∧ cur.size = cv * 8 := by
        obtain ⟨_, ⟨e, _⟩ | ⟨g2, cap2, cur, e, _, hh, _, _, hs, _⟩⟩ := hOd
        · cases e
        · cases e
          exact ⟨cur, hh, hs⟩
      have kc := block_cell hcur2
      have fc := block_frozen hcur2
      obtain ⟨u7, x7⟩ : ∃ u, Wd.cell? ⟨g, k * 8 + 7, none⟩ = some u := ⟨cur2[k * 8 + 7]'(by omega), by rw [kc]; simp⟩
      clear kc
      refine anyT_one 11 rfl (by kernel_rfl) rfl ?_
      unfold Oper.wp
      go_simp
      have hO6 := (hOd.stored (k * 8 + 7) (.int .i64 (sq + 1))).1
      have hb6 : But (fun x => x = g) Wd (Wd.setCell ⟨g, k * 8 + 7, none⟩ (.int .i64 (sq + 1))) := (But.refl (fun x => x = g) _).setCell (p := ⟨g, k * 8 + 7, none⟩) rfl _
      refine ⟨hb6, ?_⟩
      have hbt6 := (hb6.block bt (Array.getElem?_eq_some_iff.1 hbtd).1 (fun e => hgb e.symm)).trans hbtd
      generalize Wd.setCell ⟨g, k * 8 + 7, none⟩ (.int .i64 (sq + 1)) = V at *
      clear x7 fc
      refine anyT_done (by kernel_rfl) ?_
      have hfin : DTq base w V bt (.slice (some ⟨g, 0, none⟩) l.length cv) lim (sq + 1) (l.modify k (fun r => { r with till := till, turn := sq + 1 })) := by
        refine ⟨.slice (some ⟨g, 0, none⟩) l.length cv, ⟨hT.1, hbt6, ?_⟩, B5.trans ⟨hb6.os, hb6.tape, hb6.output, hb6.size, fun x hx he => hb6.block x hx (fun e => he (.inr (by rw [e]; rfl)))⟩, .inl rfl⟩
        rw [List.length_modify, rws_modify till (sq + 1) l k hkl]
        exact hO6
      have HF := hide hfin
      clear hfin
      go_wp2_with fail
      go_ret
      exact ⟨by rw [HPE.out]; rfl, .inr ⟨HPE.out, k, HKX.out, HF.out⟩⟩
end Go.Proofs.Ytahphjindjlcpaa

/- The document's Drop of a table. -/
namespace Go.Proofs.Ytahphjindjlcpaa
open Go.RowKit Go.Shelf
set_option maxRecDepth 100000
set_option linter.unusedVariables false
set_option linter.unusedSimpArgs false

theorem rws_takeD (l : List Rw) (k : Nat) (hk : k ≤ l.length) : (rws l).take (k * 8) = rws (l.take k) := by
  conv => lhs; rw [← List.take_append_drop k l]
  rw [rws_append, List.take_left' (by rw [rws_length, List.length_take, Nat.min_eq_left hk])]
/-- The first of one's own. -/
theorem ownD_take {base : Nat} {W : World} {g n cap : Nat} {l : List Rw} (k : Nat) (hk : k ≤ l.length) (h : W.ownsRow base 86 8 (.slice (some ⟨g, 0, none⟩) n cap) l.length (rws l)) : W.ownsRow base 86 8 (.slice (some ⟨g, 0, none⟩) k cap) k (rws (l.take k)) := by
  obtain ⟨h1, ⟨e, _⟩ | ⟨g2, cap2, cur, e, hg, hh, hl, hm, hs, hc⟩⟩ := h
  · cases e
  · cases e
    refine ⟨by rw [rws_length, List.length_take, Nat.min_eq_left hk], .inr ⟨g, cap, cur, rfl, hg, hh, by omega, hm, hs, ?_⟩⟩
    rw [← rws_takeD l k hk, ← hc, List.take_take, Nat.min_eq_left (by omega)]
theorem rws_oneD (l : List Rw) : ∀ u ∈ rws l, u.oneCell' = true := fun u hu => by
  obtain ⟨r, _, hr⟩ := List.mem_flatMap.1 hu
  simp only [rwc, List.mem_cons, List.not_mem_nil, or_false] at hr
  rcases hr with rfl | rfl | rfl | rfl | rfl | rfl | rfl | rfl <;> rfl

theorem addr_add' (b off k : Nat) : (⟨b, off, none⟩ : Addr).add k = ⟨b, off + k, none⟩ := by unfold Addr.add; split <;> simp_all
theorem erase_eqR (l : List Rw) (i : Nat) : l.eraseIdx i = l.take i ++ l.drop (i + 1) := List.eraseIdx_eq_take_drop_succ l i
/-- All of a list appended onto one's own. -/
theorem appD (w : World) (ty : TypeId) (base n₀ : Nat) (v : Value) (xs : List Rw) (sv : Value) (ys : List Rw) (hown : w.ownsRow base 86 8 v xs.length (rws xs)) (hI : RdR n₀ w sv ys) (hbase : base ≤ w.heap.size) (hs : xs.length + ys.length ≤ 10000) :
    ∃ v' w', (Builtin.append_ #[67, 67] ty #[v, sv]).run Try.prog w = .ok v' w' ∧ w'.ownsRow base 86 8 v' (xs ++ ys).length (rws (xs ++ ys)) ∧ w.grownBy w' v.ownBlock ∧ (v'.ownBlock = v.ownBlock ∨ v'.ownBlock = some w.heap.size) := by
  obtain ⟨i0, hi0, hz0, hz1, hz2⟩ := info_parts info_drow
  rcases hI with ⟨a, cap, rfl, rfl, hcm, ha⟩ | ⟨b, off, cap, rfl, hne, hl, hm, hb, hc⟩
  · obtain ⟨av, cv, rfl, hv1, hv2⟩ := (ownD_rd hown).slice
    refine ⟨_, w, run_append_nothing w _ _ ty _ i0 Try.underlying67 hi0 av xs.length cv hv1 (.slice a 0 cap) ?_, by rw [List.append_nil]; exact hown, ⟨rfl, rfl, rfl, Nat.le_refl _, fun _ _ _ => rfl⟩, .inl rfl⟩
    refine ⟨.inl ⟨_, Try.underlying67⟩, fun w' => ?_, ?_, ?_, by simp, by simp⟩ <;> cases a <;> simp [Builtin.lenOf, Builtin.firstCells, go_sem]
  · have hp : 0 < ys.length := List.length_pos_iff.2 hne
    obtain ⟨g, cap', w', hr, h2, h3, h4, h5⟩ := run_append_lies (P := Try.prog) w 67 ty base 86 i0 _ 8 40 Try.underlying67 hi0 hz0 hz1 hz2 rfl (by decide) v xs.length (rws xs) hown ⟨b, off, none⟩ ys.length cap (rws ys) (rws_length ys) (fun j u hj => by
      have hlt := (List.getElem?_eq_some_iff.1 hj).1
      rw [rws_length] at hlt
      rw [addr_add']
      have h1 := hc (j / 8) (by omega) (j % 8) (Nat.mod_lt _ (by omega))
      rw [← rws_at ys (j / 8) (j % 8) (by omega) (Nat.mod_lt _ (by omega)), show j / 8 * 8 + j % 8 = j from by omega, hj] at h1
      rw [← h1]
      congr 2
      omega) (rws_oneD ys) hp (by unfold maxLen; omega) (by omega) hbase _ rfl
    refine ⟨_, w', hr, by rw [List.length_append, rws_append]; exact h2, h3, ?_⟩
    rcases h4 with h4 | h4
    · exact .inl (by rw [h4]; rfl)
    · exact .inr (by rw [h4]; rfl)

/-- What is behind some of one's own, as a slice reads it. -/
theorem ownD_drop {base : Nat} {W : World} {g cap : Nat} {l : List Rw} (k : Nat) (hk : k ≤ l.length) (h : W.ownsRow base 86 8 (.slice (some ⟨g, 0, none⟩) l.length cap) l.length (rws l)) :
    RdR W.heap.size W (.slice (if cap = k then some ⟨g, 0, none⟩ else some ⟨g, k * 8, none⟩) (l.length - k) (cap - k)) (l.drop k) := by
  obtain ⟨h1, ⟨e, _⟩ | ⟨g2, cap2, cur, e, hg, hh, hl, hm, hs, hc⟩⟩ := h
  · cases e
  · cases e
    have hm' : cap ≤ 9223372036854775807 := by simpa [maxLen] using hm
    by_cases h0 : l.length = k
    · subst h0
      exact .inl ⟨_, _, by rw [Nat.sub_self], by simp, by omega, fun h => by split at h <;> cases h⟩
    · refine .inr ⟨g, k * 8, cap - k, by rw [if_neg (by omega), List.length_drop], fun e => by have := congrArg List.length e; simp at this; omega, by simp; omega, by omega, (Array.getElem?_eq_some_iff.1 hh).1, fun j hj i hi => ?_⟩
      have hj' : k + j < l.length := by simp at hj; omega
      rw [block_cell hh, show k * 8 + j * 8 + i = (k + j) * 8 + i from by omega, List.getElem_drop, ← rws_at l (k + j) i hj' hi, ← hc, List.getElem?_take_of_lt (by omega)]
      simp


/-- What the document's Drop answers. -/
def rde (l : List Rw) (p s d a b : Int) : Int := if kix p s d (kyp p a) b l = none then 11 else 0

set_option maxHeartbeats 8000000 in
theorem rtdrop_any (base bt : Nat) (v : Value) (lim sq : Int) (l : List Rw) (p s d a b : Int) (w : World) (hT : DT base w bt v lim sq l) (hl : l.length ≤ 5000) (hbs : base ≤ w.heap.size) :
    Calls Try.prog 30 #[.pointer (some ⟨bt, 0, none⟩), .agg #[.int .u8 p, .int .u32 s, .int .u32 d, .int .u16 a, .int .u16 b]] w fun e w' => e = .returned (.int .i64 (rde l p s d a b)) ∧
      ((kix p s d (kyp p a) b l = none ∧ DTq base w w' bt v lim sq l) ∨ (∃ k, kix p s d (kyp p a) b l = some k ∧ DTq base w w' bt v lim sq (l.eraseIdx k))) := by
  have lb0 : Later w (w.alloc (.cells #[.int .u8 p, .int .u32 s, .int .u32 d, .int .u16 a, .int .u16 b] 26)) := (Below.refl _ _).alloc (Nat.le_refl _) _
  have t0 := heap_alloc_new w (.cells #[.int .u8 p, .int .u32 s, .int .u32 d, .int .u16 a, .int .u16 b] 26)
  obtain ⟨av, cv, rfl, hcl, hcm⟩ := (ownD_rd hT.2.2).slice
  have HAT := hide (fun W (hW : Later w W) => at_any base bt _ lim sq l p s d a b W (hT.later hW))
  have k0 := block_cell t0
  go_enter Try.func30, Try.ntmps30
  go_wp2_with fail
  generalize w.alloc _ = w0 at *
  refine (HAT.out w0 lb0).mono ?_
  rintro e w1 ⟨rfl, l1⟩
  have L1 := lb0.trans l1
  clear k0
  cases hkx : kix p s d (kyp p a) b l with
  | none =>
    have hpe : rde l p s d a b = 11 := by unfold rde; rw [hkx]; simp
    have HPE := hide hpe
    have HKX := hide hkx
    clear hpe hkx
    rw [rix_none]
    go_wp2_with fail
    go_ret
    exact ⟨by rw [HPE.out]; rfl, .inl ⟨HKX.out, DTq.same hT L1⟩⟩
  | some j =>
    have hpe : rde l p s d a b = 0 := by unfold rde; rw [hkx]; simp
    have hj := kix_lt hkx
    have HPE := hide hpe
    have HKX := hide hkx
    clear hpe hkx
    rw [rix_some]
    have hk0 : ¬ (j : Int) < 0 := by omega
    obtain ⟨g, cap, rfl, rfl⟩ : ∃ g cap, av = some ⟨g, 0, none⟩ ∧ cv = cap := by
      obtain ⟨_, ⟨e, e2⟩ | ⟨g2, cap2, cur, e, _⟩⟩ := hT.2.2
      · omega
      · cases e
        exact ⟨g2, cv, rfl, rfl⟩
    go_upto_region 7 with fail
    have h2 : (j : Int) + 1 ≤ 9223372036854775807 := by omega
    have HJ := hide hj
    have i1 : (j : Int) ≤ cv := by omega
    have i2 : (j : Int) + 1 ≤ l.length := by omega
    have i3 : (l.length : Int) ≤ cv := by omega
    have i4 : ¬ cv = 0 := by omega
    have i5 : j ≤ cv := by omega
    have i6 : j + 1 ≤ l.length := by omega
    have HT := hide hT
    clear hj
    refine anyT_begin (R := But (fun x => w.heap.size ≤ x)) 17 rfl (by kernel_rfl) ?_
    have ld : Later w w1.drew := L1.trans (Later.drew w1)
    have hsd : w.heap.size ≤ w1.drew.heap.size := ld.size
    generalize w1.drew = Wd at *
    have hbd : ∀ v1, But (fun x => w.heap.size ≤ x) Wd v1 → ∀ j, v1.cell? ⟨bt, j, none⟩ = #[Value.slice (some ⟨g, 0, none⟩) l.length cv, .int .i64 lim, .int .i64 sq][j]? := fun v1 hv => block_cell ((hv.block bt (by have := HT.out.blt; omega) (fun e => by have := HT.out.blt; omega)).trans (HT.out.later ld).2.1)
    have hwr : IntKind.i64.wrap ((j : Int) + 1) = (j : Int) + 1 := by simp [IntKind.wrap, IntKind.bits, IntKind.signed]; omega
    have HWR := hide hwr
    clear hwr
    by_cases hcap : cv = j + 1
    · subst hcap
      have i7 : (j : Int) ≤ (j : Int) + 1 := by omega
      have i8 : (l.length : Int) ≤ (j : Int) + 1 := by omega
      refine anyT_val (But.pre _) 0 rfl (by kernel_rfl) (by kernel_rfl) (by kernel_rfl) (fun _ _ _ _ h => h) rfl ?_; apply Exists.intro; refine ⟨fun v1 hv1 => ?_, ?_⟩; (· (go_simp; rfl)); simp only [Act.put, List.setIfInBounds_toArray, List.set_cons_zero, List.set_cons_succ]
      refine anyT_val (But.pre _) 1 rfl (by kernel_rfl) (by kernel_rfl) (by kernel_rfl) (fun _ _ _ _ h => h) rfl ?_; apply Exists.intro; refine ⟨fun v1 hv1 => ?_, ?_⟩; (· (go_simp; rfl)); simp only [Act.put, List.setIfInBounds_toArray, List.set_cons_zero, List.set_cons_succ]
      refine anyT_val (But.pre _) 2 rfl (by kernel_rfl) (by kernel_rfl) (by kernel_rfl) (fun _ _ _ _ h => h) rfl ?_; apply Exists.intro; refine ⟨fun v1 hv1 => ?_, ?_⟩; (· (go_simp; rfl)); simp only [Act.put, List.setIfInBounds_toArray, List.set_cons_zero, List.set_cons_succ]
      refine anyT_val (But.pre _) 3 rfl (by kernel_rfl) (by kernel_rfl) (by kernel_rfl) (fun _ _ _ _ h => h) rfl ?_; apply Exists.intro; refine ⟨fun v1 hv1 => ?_, ?_⟩; (· (go_simp; rfl)); simp only [Act.put, List.setIfInBounds_toArray, List.set_cons_zero, List.set_cons_succ]
      refine anyT_val (But.pre _) 4 rfl (by kernel_rfl) (by kernel_rfl) (by kernel_rfl) (fun _ _ _ _ h => h) rfl ?_; apply Exists.intro; refine ⟨fun v1 hv1 => ?_, ?_⟩; (· (go_simp; rfl)); simp only [Act.put, List.setIfInBounds_toArray, List.set_cons_zero, List.set_cons_succ]
      refine anyT_val (But.pre _) 5 rfl (by kernel_rfl) (by kernel_rfl) (by kernel_rfl) (fun _ _ _ _ h => h) rfl ?_; apply Exists.intro; refine ⟨fun v1 hv1 => ?_, ?_⟩; (· (go_simp; rfl)); simp only [Act.put, List.setIfInBounds_toArray, List.set_cons_zero, List.set_cons_succ]
      refine anyT_val (But.pre _) 6 rfl (by kernel_rfl) (by kernel_rfl) (by kernel_rfl) (fun _ _ _ _ h => h) rfl ?_; apply Exists.intro; refine ⟨fun v1 hv1 => ?_, ?_⟩; (· (go_simp; rfl)); simp only [Act.put, List.setIfInBounds_toArray, List.set_cons_zero, List.set_cons_succ]
      refine anyT_val (But.pre _) 8 rfl (by kernel_rfl) (by kernel_rfl) (by kernel_rfl) (fun _ _ _ _ h => h) rfl ?_; apply Exists.intro; refine ⟨fun v1 hv1 => ?_, ?_⟩; (· (go_simp; rfl)); simp only [Act.put, List.setIfInBounds_toArray, List.set_cons_zero, List.set_cons_succ]
      refine anyT_val (But.pre _) 9 rfl (by kernel_rfl) (by kernel_rfl) (by kernel_rfl) (fun _ _ _ _ h => h) rfl ?_; apply Exists.intro; refine ⟨fun v1 hv1 => ?_, ?_⟩; (· (go_simp; rfl)); simp only [Act.put, List.setIfInBounds_toArray, List.set_cons_zero, List.set_cons_succ]
      refine anyT_val (But.pre _) 10 rfl (by kernel_rfl) (by kernel_rfl) (by kernel_rfl) (fun _ _ _ _ h => h) rfl ?_; apply Exists.intro; refine ⟨fun v1 hv1 => ?_, ?_⟩; (· (go_simp; rfl)); simp only [Act.put, List.setIfInBounds_toArray, List.set_cons_zero, List.set_cons_succ]
      refine anyT_val (But.pre _) 11 rfl (by kernel_rfl) (by kernel_rfl) (by kernel_rfl) (fun _ _ _ _ h => h) rfl ?_; apply Exists.intro; refine ⟨fun v1 hv1 => ?_, ?_⟩; (· (go_simp; rfl)); simp only [Act.put, List.setIfInBounds_toArray, List.set_cons_zero, List.set_cons_succ]
      refine anyT_val (But.pre _) 12 rfl (by kernel_rfl) (by kernel_rfl) (by kernel_rfl) (fun _ _ _ _ h => h) rfl ?_; apply Exists.intro; refine ⟨fun v1 hv1 => ?_, ?_⟩; (· (go_simp; rfl)); simp only [Act.put, List.setIfInBounds_toArray, List.set_cons_zero, List.set_cons_succ]
      refine anyT_val (But.pre _) 13 rfl (by kernel_rfl) (by kernel_rfl) (by kernel_rfl) (fun _ _ _ _ h => h) rfl ⟨.int .i64 ((j : Int) + 1), fun v1 hv1 => by go_simp; rw [HWR.out], ?_⟩
      simp only [Act.put, List.setIfInBounds_toArray, List.set_cons_zero, List.set_cons_succ]
      refine anyT_val (But.pre _) 14 rfl (by kernel_rfl) (by kernel_rfl) (by kernel_rfl) (fun _ _ _ _ h => h) rfl ?_; apply Exists.intro; refine ⟨fun v1 hv1 => ?_, ?_⟩; (· (go_simp; rfl)); simp only [Act.put, List.setIfInBounds_toArray, List.set_cons_zero, List.set_cons_succ]
      clear hbd
      have hr0 : Wd.ownsRow base 86 8 (.slice none 0 0) ([] : List Rw).length (rws []) := ⟨rfl, .inl ⟨rfl, rfl⟩⟩
      obtain ⟨v1, W1, q1, q2, q3, q4⟩ := appD Wd 67 base Wd.heap.size (.slice none 0 0) [] (.slice (some ⟨g, 0, none⟩) j (j + 1)) (l.take j) hr0 (ownD_rd (l := l.take j) (by rw [List.length_take, Nat.min_eq_left (by omega)]; exact ownD_take j (by omega) (HT.out.later ld).2.2)) (by omega) (by simp; omega)
      have b1 : But (fun x => w.heap.size ≤ x) Wd W1 := ⟨q3.os, q3.tape, q3.output, q3.size, fun k hk he => q3.block k hk (fun e => by cases e)⟩
      have l1 : Later Wd W1 := ⟨q3.os, q3.tape, q3.output, q3.size, fun k hk => q3.block k hk (fun e => by cases e)⟩
      have L1 := ld.trans l1
      have hs1 := L1.size
      refine anyT_one 7 rfl (by kernel_rfl) rfl ?_
      refine wp_app (.tmp 14) (.tmp 20) 67 rfl _ _ rfl rfl _ W1 q1 ⟨b1, ?_⟩
      simp only [Act.put, List.setIfInBounds_toArray, List.set_cons_zero, List.set_cons_succ]
      have hd1 := ownD_drop (j + 1) (by omega) (HT.out.later L1).2.2
      rw [if_pos rfl, Nat.sub_self, show l.length - (j + 1) = 0 from by omega] at hd1
      obtain ⟨v2, W2, p1, p2, p3, p4⟩ := appD W1 67 base W1.heap.size v1 ([] ++ l.take j) _ (l.drop (j + 1)) q2 hd1 (by omega) (by simp; omega)
      have f1 : ∀ x, v1.ownBlock = some x → w.heap.size ≤ x := fun x hx => by
        rcases q4 with h | h
        · rw [h] at hx; cases hx
        · rw [h] at hx; cases hx; omega
      have f2 : ∀ x, v2.ownBlock = some x → w.heap.size ≤ x := fun x hx => by
        rcases p4 with h | h
        · rw [h] at hx; exact f1 x hx
        · rw [h] at hx; cases hx; omega
      have b2 : But (fun x => w.heap.size ≤ x) W1 W2 := ⟨p3.os, p3.tape, p3.output, p3.size, fun k hk he => p3.block k hk (fun e => he (f1 k e.symm))⟩
      rw [List.nil_append, ← erase_eqR] at p2
      obtain ⟨a2, c2, rfl, _, _⟩ := (ownD_rd p2).slice
      refine anyT_one 15 rfl (by kernel_rfl) rfl ?_
      refine wp_app (.tmp 21) (.tmp 28) 67 rfl _ _ rfl rfl _ W2 p1 ⟨b2, ?_⟩
      simp only [Act.put, List.setIfInBounds_toArray, List.set_cons_zero, List.set_cons_succ]
      refine anyT_one 16 rfl (by kernel_rfl) rfl ?_
      unfold Oper.wp
      go_simp
      refine ⟨But.refl _ _, ?_⟩
      refine anyT_done (by kernel_rfl) ?_
      have bz : But (fun x => w.heap.size ≤ x) w W2 := (But.of ld).trans (b1.trans b2)
      have hb0 := (bz.block bt HT.out.blt (fun e => by have := HT.out.blt; omega)).trans HT.out.2.1
      have kz := block_cell hb0
      have fz := block_frozen hb0
      have P2 := hide p2
      have F2 := hide f2
      clear p2 f2 q2 p1 q1 hd1 q4 p4 f1 hr0
      go_wp2_with fail
      go_ret
      refine ⟨by rw [HPE.out]; rfl, .inr ⟨j, HKX.out, ?_⟩⟩
      have bs : But (fun x => x = bt ∨ Value.ownBlock (.slice (some ⟨g, 0, none⟩) l.length (j + 1)) = some x) w (W2.setCell ⟨bt, 0, none⟩ (.slice a2 (l.eraseIdx j).length c2)) := by
        refine ⟨bz.os, bz.tape, bz.output, Nat.le_trans bz.size (by simp), fun k hk he => ?_⟩
        exact (Below.heap_setCell W2 ⟨bt, 0, none⟩ _ k (fun e => he (.inl e))).trans (bz.block k hk (fun e => by omega))
      refine ⟨.slice a2 (l.eraseIdx j).length c2, ⟨HT.out.1, heap_set1 hb0 0 _, ?_⟩, bs, .inr F2.out⟩
      obtain ⟨s1, s2 | ⟨g2, cap2, cur, e, s2, s3, s4⟩⟩ := P2.out
      · exact ⟨s1, .inl s2⟩
      · refine ⟨s1, .inr ⟨g2, cap2, cur, e, s2, hset_ne s3 (fun e2 => ?_), s4⟩⟩
        rw [e2, hb0] at s3
        simp at s3
    · have hn : True := trivial
      refine anyT_val (But.pre _) 0 rfl (by kernel_rfl) (by kernel_rfl) (by kernel_rfl) (fun _ _ _ _ h => h) rfl ?_; apply Exists.intro; refine ⟨fun v1 hv1 => ?_, ?_⟩; (· (go_simp; rfl)); simp only [Act.put, List.setIfInBounds_toArray, List.set_cons_zero, List.set_cons_succ]
      refine anyT_val (But.pre _) 1 rfl (by kernel_rfl) (by kernel_rfl) (by kernel_rfl) (fun _ _ _ _ h => h) rfl ?_; apply Exists.intro; refine ⟨fun v1 hv1 => ?_, ?_⟩; (· (go_simp; rfl)); simp only [Act.put, List.setIfInBounds_toArray, List.set_cons_zero, List.set_cons_succ]
      refine anyT_val (But.pre _) 2 rfl (by kernel_rfl) (by kernel_rfl) (by kernel_rfl) (fun _ _ _ _ h => h) rfl ?_; apply Exists.intro; refine ⟨fun v1 hv1 => ?_, ?_⟩; (· (go_simp; rfl)); simp only [Act.put, List.setIfInBounds_toArray, List.set_cons_zero, List.set_cons_succ]
      refine anyT_val (But.pre _) 3 rfl (by kernel_rfl) (by kernel_rfl) (by kernel_rfl) (fun _ _ _ _ h => h) rfl ?_; apply Exists.intro; refine ⟨fun v1 hv1 => ?_, ?_⟩; (· (go_simp; rfl)); simp only [Act.put, List.setIfInBounds_toArray, List.set_cons_zero, List.set_cons_succ]
      refine anyT_val (But.pre _) 4 rfl (by kernel_rfl) (by kernel_rfl) (by kernel_rfl) (fun _ _ _ _ h => h) rfl ?_; apply Exists.intro; refine ⟨fun v1 hv1 => ?_, ?_⟩; (· (go_simp; rfl)); simp only [Act.put, List.setIfInBounds_toArray, List.set_cons_zero, List.set_cons_succ]
      refine anyT_val (But.pre _) 5 rfl (by kernel_rfl) (by kernel_rfl) (by kernel_rfl) (fun _ _ _ _ h => h) rfl ?_; apply Exists.intro; refine ⟨fun v1 hv1 => ?_, ?_⟩; (· (go_simp; rfl)); simp only [Act.put, List.setIfInBounds_toArray, List.set_cons_zero, List.set_cons_succ]
      refine anyT_val (But.pre _) 6 rfl (by kernel_rfl) (by kernel_rfl) (by kernel_rfl) (fun _ _ _ _ h => h) rfl ?_; apply Exists.intro; refine ⟨fun v1 hv1 => ?_, ?_⟩; (· (go_simp; rfl)); simp only [Act.put, List.setIfInBounds_toArray, List.set_cons_zero, List.set_cons_succ]
      refine anyT_val (But.pre _) 8 rfl (by kernel_rfl) (by kernel_rfl) (by kernel_rfl) (fun _ _ _ _ h => h) rfl ?_; apply Exists.intro; refine ⟨fun v1 hv1 => ?_, ?_⟩; (· (go_simp; rfl)); simp only [Act.put, List.setIfInBounds_toArray, List.set_cons_zero, List.set_cons_succ]
      refine anyT_val (But.pre _) 9 rfl (by kernel_rfl) (by kernel_rfl) (by kernel_rfl) (fun _ _ _ _ h => h) rfl ?_; apply Exists.intro; refine ⟨fun v1 hv1 => ?_, ?_⟩; (· (go_simp; rfl)); simp only [Act.put, List.setIfInBounds_toArray, List.set_cons_zero, List.set_cons_succ]
      refine anyT_val (But.pre _) 10 rfl (by kernel_rfl) (by kernel_rfl) (by kernel_rfl) (fun _ _ _ _ h => h) rfl ?_; apply Exists.intro; refine ⟨fun v1 hv1 => ?_, ?_⟩; (· (go_simp; rfl)); simp only [Act.put, List.setIfInBounds_toArray, List.set_cons_zero, List.set_cons_succ]
      refine anyT_val (But.pre _) 11 rfl (by kernel_rfl) (by kernel_rfl) (by kernel_rfl) (fun _ _ _ _ h => h) rfl ?_; apply Exists.intro; refine ⟨fun v1 hv1 => ?_, ?_⟩; (· (go_simp; rfl)); simp only [Act.put, List.setIfInBounds_toArray, List.set_cons_zero, List.set_cons_succ]
      refine anyT_val (But.pre _) 12 rfl (by kernel_rfl) (by kernel_rfl) (by kernel_rfl) (fun _ _ _ _ h => h) rfl ?_; apply Exists.intro; refine ⟨fun v1 hv1 => ?_, ?_⟩; (· (go_simp; rfl)); simp only [Act.put, List.setIfInBounds_toArray, List.set_cons_zero, List.set_cons_succ]
      refine anyT_val (But.pre _) 13 rfl (by kernel_rfl) (by kernel_rfl) (by kernel_rfl) (fun _ _ _ _ h => h) rfl ⟨.int .i64 ((j : Int) + 1), fun v1 hv1 => by go_simp; rw [HWR.out], ?_⟩
      simp only [Act.put, List.setIfInBounds_toArray, List.set_cons_zero, List.set_cons_succ]
      refine anyT_val (But.pre _) 14 rfl (by kernel_rfl) (by kernel_rfl) (by kernel_rfl) (fun _ _ _ _ h => h) rfl ?_; apply Exists.intro; refine ⟨fun v1 hv1 => ?_, ?_⟩; (· (go_simp; rfl)); simp only [Act.put, List.setIfInBounds_toArray, List.set_cons_zero, List.set_cons_succ]
      clear hbd
      have hr0 : Wd.ownsRow base 86 8 (.slice none 0 0) ([] : List Rw).length (rws []) := ⟨rfl, .inl ⟨rfl, rfl⟩⟩
      obtain ⟨v1, W1, q1, q2, q3, q4⟩ := appD Wd 67 base Wd.heap.size (.slice none 0 0) [] (.slice (some ⟨g, 0, none⟩) j cv) (l.take j) hr0 (ownD_rd (l := l.take j) (by rw [List.length_take, Nat.min_eq_left (by omega)]; exact ownD_take j (by omega) (HT.out.later ld).2.2)) (by omega) (by simp; omega)
      have b1 : But (fun x => w.heap.size ≤ x) Wd W1 := ⟨q3.os, q3.tape, q3.output, q3.size, fun k hk he => q3.block k hk (fun e => by cases e)⟩
      have l1 : Later Wd W1 := ⟨q3.os, q3.tape, q3.output, q3.size, fun k hk => q3.block k hk (fun e => by cases e)⟩
      have L1 := ld.trans l1
      have hs1 := L1.size
      refine anyT_one 7 rfl (by kernel_rfl) rfl ?_
      refine wp_app (.tmp 14) (.tmp 20) 67 rfl _ _ rfl rfl _ W1 q1 ⟨b1, ?_⟩
      simp only [Act.put, List.setIfInBounds_toArray, List.set_cons_zero, List.set_cons_succ]
      have hd1 := ownD_drop (j + 1) (by omega) (HT.out.later L1).2.2
      rw [if_neg hcap] at hd1
      obtain ⟨v2, W2, p1, p2, p3, p4⟩ := appD W1 67 base W1.heap.size v1 ([] ++ l.take j) _ (l.drop (j + 1)) q2 hd1 (by omega) (by simp; omega)
      have f1 : ∀ x, v1.ownBlock = some x → w.heap.size ≤ x := fun x hx => by
        rcases q4 with h | h
        · rw [h] at hx; cases hx
        · rw [h] at hx; cases hx; omega
      have f2 : ∀ x, v2.ownBlock = some x → w.heap.size ≤ x := fun x hx => by
        rcases p4 with h | h
        · rw [h] at hx; exact f1 x hx
        · rw [h] at hx; cases hx; omega
      have b2 : But (fun x => w.heap.size ≤ x) W1 W2 := ⟨p3.os, p3.tape, p3.output, p3.size, fun k hk he => p3.block k hk (fun e => he (f1 k e.symm))⟩
      rw [List.nil_append, ← erase_eqR] at p2
      obtain ⟨a2, c2, rfl, _, _⟩ := (ownD_rd p2).slice
      refine anyT_one 15 rfl (by kernel_rfl) rfl ?_
      refine wp_app (.tmp 21) (.tmp 28) 67 rfl _ _ rfl rfl _ W2 p1 ⟨b2, ?_⟩
      simp only [Act.put, List.setIfInBounds_toArray, List.set_cons_zero, List.set_cons_succ]
      refine anyT_one 16 rfl (by kernel_rfl) rfl ?_
      unfold Oper.wp
      go_simp
      refine ⟨But.refl _ _, ?_⟩
      refine anyT_done (by kernel_rfl) ?_
      have bz : But (fun x => w.heap.size ≤ x) w W2 := (But.of ld).trans (b1.trans b2)
      have hb0 := (bz.block bt HT.out.blt (fun e => by have := HT.out.blt; omega)).trans HT.out.2.1
      have kz := block_cell hb0
      have fz := block_frozen hb0
      have P2 := hide p2
      have F2 := hide f2
      clear p2 f2 q2 p1 q1 hd1 q4 p4 f1 hr0
      go_wp2_with fail
      go_ret
      refine ⟨by rw [HPE.out]; rfl, .inr ⟨j, HKX.out, ?_⟩⟩
      have bs : But (fun x => x = bt ∨ Value.ownBlock (.slice (some ⟨g, 0, none⟩) l.length cv) = some x) w (W2.setCell ⟨bt, 0, none⟩ (.slice a2 (l.eraseIdx j).length c2)) := by
        refine ⟨bz.os, bz.tape, bz.output, Nat.le_trans bz.size (by simp), fun k hk he => ?_⟩
        exact (Below.heap_setCell W2 ⟨bt, 0, none⟩ _ k (fun e => he (.inl e))).trans (bz.block k hk (fun e => by omega))
      refine ⟨.slice a2 (l.eraseIdx j).length c2, ⟨HT.out.1, heap_set1 hb0 0 _, ?_⟩, bs, .inr F2.out⟩
      obtain ⟨s1, s2 | ⟨g2, cap2, cur, e, s2, s3, s4⟩⟩ := P2.out
      · exact ⟨s1, .inl s2⟩
      · refine ⟨s1, .inr ⟨g2, cap2, cur, e, s2, hset_ne s3 (fun e2 => ?_), s4⟩⟩
        rw [e2, hb0] at s3
        simp at s3
end Go.Proofs.Ytahphjindjlcpaa

/- The program's rows and the document's: the same, in another order. -/
namespace Go.Proofs.Ytahphjindjlcpaa
open Go.RowKit Go.Shelf
set_option maxRecDepth 100000
set_option linter.unusedVariables false
set_option linter.unusedSimpArgs false

def rky (r : Rw) : Int × Int × Int × Int × Int := (r.p, r.s, r.d, r.a, r.b)
theorem isK_iff {p s d a b : Int} {r : Rw} : isK p s d a b r = true ↔ rky r = (p, s, d, a, b) := by
  unfold isK rky
  simp
/-- No key stands twice. -/
def UP (l : List Rw) : Prop := l.Pairwise (fun r q => rky r ≠ rky q)
theorem UP.uq {l : List Rw} (h : UP l) : UQ l := fun kp ks kd ka kb i j hi hj h1 h2 => by
  have e : rky l[i] = rky l[j] := by rw [isK_iff.1 h1, isK_iff.1 h2]
  unfold UP at h
  rw [List.pairwise_iff_getElem] at h
  rcases Nat.lt_trichotomy i j with hlt | he | hgt
  · exact absurd e (h i j hi hj hlt)
  · exact he
  · exact absurd e.symm (h j i hj hi hgt)
/-- The list that a row stands in. -/
def bkr (r : Rw) : Nat := (hsh (tb r.p r.s r.d r.a r.b) % 256).toNat
theorem bkr_key {p s d a b : Int} {r : Rw} (h : isK p s d (kyp p a) b r = true) : bkr r = bki p s d a b := by
  have := isK_iff.1 h
  unfold rky at this
  simp at this
  unfold bkr bki
  rw [this.1, this.2.1, this.2.2.1, this.2.2.2.1, this.2.2.2.2]
structure Rel (ls : Nat → List Rw) (l : List Rw) : Prop where
  place : ∀ i, ∀ r ∈ ls i, bkr r = i
  once : ∀ i, UP (ls i)
  up : UP l
  mem : ∀ r, r ∈ l ↔ r ∈ ls (bkr r)
theorem Rel.uq {ls : Nat → List Rw} {l : List Rw} (h : Rel ls l) (i : Nat) : UQ (ls i) := (h.once i).uq
theorem kix_none_iff {kp ks kd ka kb : Int} {l : List Rw} : kix kp ks kd ka kb l = none ↔ ∀ r ∈ l, isK kp ks kd ka kb r = false := by
  unfold kix
  rw [List.findIdx?_eq_none_iff]
theorem Rel.kxe {ls : Nat → List Rw} {l : List Rw} (h : Rel ls l) (p s d a b : Int) : kx p s d a b ls = none ↔ kix p s d (kyp p a) b l = none := by
  unfold kx
  rw [kix_none_iff, kix_none_iff]
  constructor
  · intro hn r hr
    cases hb : isK p s d (kyp p a) b r with
    | false => rfl
    | true =>
      have := (h.mem r).1 hr
      rw [bkr_key hb] at this
      rw [hn r this] at hb
      cases hb
  · intro hn r hr
    cases hb : isK p s d (kyp p a) b r with
    | false => rfl
    | true =>
      have hm : r ∈ ls (bkr r) := by rw [bkr_key hb]; exact hr
      rw [hn r ((h.mem r).2 hm)] at hb
      cases hb
theorem Rel.empty : Rel (fun _ => []) [] := ⟨fun _ _ h => (by cases h), fun _ => List.Pairwise.nil, List.Pairwise.nil, fun r => by simp⟩
theorem Rel.map {ls : Nat → List Rw} {l : List Rw} (h : Rel ls l) (F : Rw → Rw) (hF : ∀ r, rky (F r) = rky r) : Rel (fun j => (ls j).map F) (l.map F) := by
  have hb : ∀ r, bkr (F r) = bkr r := fun r => by have := hF r; unfold rky at this; simp at this; unfold bkr; rw [this.1, this.2.1, this.2.2.1, this.2.2.2.1, this.2.2.2.2]
  have hu : ∀ m : List Rw, UP m → UP (m.map F) := fun m hm => by
    unfold UP at *
    rw [List.pairwise_map]
    exact hm.imp (fun {x y} hxy => by rw [hF, hF]; exact hxy)
  refine ⟨fun i r hr => ?_, fun i => hu _ (h.once i), hu _ h.up, fun r => ?_⟩
  · obtain ⟨q, hq, rfl⟩ := List.mem_map.1 hr
    rw [hb]
    exact h.place i q hq
  · simp only [List.mem_map]
    constructor
    · rintro ⟨q, hq, rfl⟩
      exact ⟨q, by rw [hb]; exact (h.mem q).1 hq, rfl⟩
    · rintro ⟨q, hq, rfl⟩
      exact ⟨q, (h.mem q).2 (by rw [hb] at hq; exact hq), rfl⟩
theorem Rel.filter {ls : Nat → List Rw} {l : List Rw} (h : Rel ls l) (G : Rw → Bool) : Rel (fun j => (ls j).filter G) (l.filter G) := by
  refine ⟨fun i r hr => h.place i r (List.mem_filter.1 hr).1, fun i => List.Pairwise.filter _ (h.once i), List.Pairwise.filter _ h.up, fun r => ?_⟩
  simp only [List.mem_filter]
  rw [h.mem r]
theorem Rel.add {ls : Nat → List Rw} {l : List Rw} (h : Rel ls l) (x : Rw) (hn : ∀ r ∈ l, rky r ≠ rky x) : Rel (addL ls (bkr x) x) (l ++ [x]) := by
  have hns : ∀ r ∈ ls (bkr x), rky r ≠ rky x := fun r hr => hn r ((h.mem r).2 (by rw [h.place _ r hr]; exact hr))
  have hsnoc : ∀ m : List Rw, UP m → (∀ r ∈ m, rky r ≠ rky x) → UP (m ++ [x]) := fun m hm hx => by
    unfold UP at *
    rw [List.pairwise_append]
    exact ⟨hm, by simp, fun r hr q hq => by rw [show q = x from by simpa using hq]; exact hx r hr⟩
  unfold addL
  refine ⟨fun i r hr => ?_, fun i => ?_, hsnoc _ h.up hn, fun r => ?_⟩
  · split at hr
    · rename_i hi
      rcases List.mem_append.1 hr with h1 | h1
      · rw [hi]; exact h.place _ r h1
      · rw [hi, show r = x from by simpa using h1]
    · exact h.place i r hr
  · split
    · exact hsnoc _ (h.once _) hns
    · exact h.once i
  · rw [List.mem_append, h.mem r]
    split
    · rename_i hi
      rw [List.mem_append, hi]
    · rename_i hi
      constructor
      · rintro (h1 | h1)
        · exact h1
        · exact absurd (by rw [show r = x from by simpa using h1]) hi
      · exact .inl
theorem kix_at {kp ks kd ka kb : Int} {l : List Rw} {k : Nat} (h : kix kp ks kd ka kb l = some k) : ∃ hk : k < l.length, isK kp ks kd ka kb l[k] = true := by
  unfold kix at h
  rw [List.findIdx?_eq_some_iff_getElem] at h
  exact ⟨h.1, h.2.1⟩
theorem modify_map {l : List Rw} {kp ks kd ka kb : Int} {k : Nat} (hu : UQ l) (hk : kix kp ks kd ka kb l = some k) (f : Rw → Rw) : l.modify k f = l.map (fun r => if isK kp ks kd ka kb r = true then f r else r) := by
  obtain ⟨hkl, hkt⟩ := kix_at hk
  apply List.ext_getElem
  · simp
  · intro j h1 h2
    rw [List.getElem_modify, List.getElem_map]
    by_cases hj : k = j
    · subst hj
      rw [if_pos rfl, if_pos hkt]
    · rw [if_neg hj, if_neg (by rw [hu.others hk j (by simpa using h1) (fun e => hj e.symm)]; simp)]
theorem erase_filter {l : List Rw} {kp ks kd ka kb : Int} {k : Nat} (hu : UQ l) (hk : kix kp ks kd ka kb l = some k) : l.eraseIdx k = l.filter (fun r => !isK kp ks kd ka kb r) := by
  obtain ⟨hkl, hkt⟩ := kix_at hk
  have ho := hu.others hk
  have e : l = l.take k ++ (l[k] :: l.drop (k + 1)) := by rw [← List.drop_eq_getElem_cons hkl, List.take_append_drop]
  have f1 : (l.take k).filter (fun r => !isK kp ks kd ka kb r) = l.take k := List.filter_eq_self.2 fun r hr => by
    obtain ⟨j, hj, rfl⟩ := List.getElem_of_mem hr
    rw [List.getElem_take, ho j (by simp at hj; omega) (by simp at hj; omega)]
    rfl
  have f2 : (l.drop (k + 1)).filter (fun r => !isK kp ks kd ka kb r) = l.drop (k + 1) := List.filter_eq_self.2 fun r hr => by
    obtain ⟨j, hj, rfl⟩ := List.getElem_of_mem hr
    rw [List.getElem_drop, ho (k + 1 + j) (by simp at hj; omega) (by omega)]
    rfl
  rw [List.eraseIdx_eq_take_drop_succ]
  conv => rhs; rw [e]
  rw [List.filter_append, List.filter_cons, f1, f2, if_neg (by rw [hkt]; simp)]
theorem Rel.other {ls : Nat → List Rw} {l : List Rw} (h : Rel ls l) {p s d a b : Int} {j : Nat} (hj : j ≠ bki p s d a b) : ∀ r ∈ ls j, isK p s d (kyp p a) b r = false := fun r hr => by
  cases hb : isK p s d (kyp p a) b r with
  | false => rfl
  | true => exact absurd ((h.place j r hr).symm.trans (bkr_key hb)) hj
theorem Rel.moved {ls : Nat → List Rw} {l : List Rw} (h : Rel ls l) {p s d a b : Int} {k k' : Nat} (hk : kx p s d a b ls = some k) (hk' : kix p s d (kyp p a) b l = some k') (x y : Int) : Rel (mvL ls (bki p s d a b) k x y) (l.modify k' (fun r => { r with till := x, turn := y })) := by
  have e : mvL ls (bki p s d a b) k x y = fun j => (ls j).map (fun r => if isK p s d (kyp p a) b r = true then { r with till := x, turn := y } else r) := by
    funext j
    unfold mvL
    split
    · rename_i hj
      subst hj
      exact modify_map (h.uq _) hk _
    · rename_i hj
      have : ∀ r ∈ ls j, (fun r : Rw => if isK p s d (kyp p a) b r = true then { r with till := x, turn := y } else r) r = r := fun r hr => by
        simp only
        rw [h.other hj r hr]
        simp
      rw [List.map_congr_left this]
      simp
  rw [e, modify_map h.up.uq hk' _]
  exact h.map _ (fun r => by unfold rky; split <;> rfl)
theorem Rel.dropped {ls : Nat → List Rw} {l : List Rw} (h : Rel ls l) {p s d a b : Int} {k k' : Nat} (hk : kx p s d a b ls = some k) (hk' : kix p s d (kyp p a) b l = some k') : Rel (dpL ls (bki p s d a b) k) (l.eraseIdx k') := by
  have e : dpL ls (bki p s d a b) k = fun j => (ls j).filter (fun r => !isK p s d (kyp p a) b r) := by
    funext j
    unfold dpL
    split
    · rename_i hj
      subst hj
      exact erase_filter (h.uq _) hk
    · rename_i hj
      exact (List.filter_eq_self.2 fun r hr => by rw [h.other hj r hr]; rfl).symm
  rw [e, erase_filter h.up.uq hk']
  exact h.filter _
end Go.Proofs.Ytahphjindjlcpaa

/- A deed on both tables. -/
namespace Go.Proofs.Ytahphjindjlcpaa
open Go.RowKit Go.Shelf
set_option maxRecDepth 100000
set_option linter.unusedVariables false
set_option linter.unusedSimpArgs false

/-- Blocks of other types than the document's table's stay. -/
def KE (w w' : World) : Prop := ∀ (k : Nat) (cur : Array Value) (t : TypeId) (f : Nat × Nat), w.heap[k]? = some (.cells cur t f) → t ≠ 69 → t ≠ 86 → w'.heap[k]? = some (.cells cur t f)
/-- Blocks of other types than both tables' stay. -/
def KD (w w' : World) : Prop := ∀ (k : Nat) (cur : Array Value) (t : TypeId) (f : Nat × Nat), w.heap[k]? = some (.cells cur t f) → t ≠ 62 → t ≠ 65 → t ≠ 69 → t ≠ 86 → w'.heap[k]? = some (.cells cur t f)
theorem KD.pre : Pre KD := ⟨fun _ _ _ _ _ h _ _ _ _ => h, fun _ _ _ h1 h2 k cur t f h a b c d => h2 k cur t f (h1 k cur t f h a b c d) a b c d⟩
theorem KD.refl (w : World) : KD w w := KD.pre.1 w
theorem KD.of_kt {w w' : World} (h : KT w w') : KD w w' := fun k cur t f hk a b _ _ => h k cur t f hk a b
theorem KD.of_ke {w w' : World} (h : KE w w') : KD w w' := fun k cur t f hk _ _ c d => h k cur t f hk c d
theorem KD.of_later {w w' : World} (h : Later w w') : KD w w' := fun k cur t f hk _ _ _ _ => later_keep h hk
theorem KE.of_later {w w' : World} (h : Later w w') : KE w w' := fun k cur t f hk _ _ => later_keep h hk
theorem DT.ke {base : Nat} {w w' : World} {b : Nat} {v : Value} {lim sq : Int} {l : List Rw} (h : DT base w b v lim sq l) (k : But (fun g => g = b ∨ v.ownBlock = some g) w w') : KE w w' := fun x cur t f hx h1 h2 => by
  refine (k.block x (Array.getElem?_eq_some_iff.1 hx).1 (fun e => ?_)).trans hx
  rcases e with rfl | e
  · rw [h.2.1] at hx
    cases hx
    exact h1 rfl
  · obtain ⟨_, ⟨e2, _⟩ | ⟨g, cap, cu, hv, hg, hh, r⟩⟩ := h.2.2
    · rw [e2] at e; cases e
    · rw [hv] at e
      cases e
      rw [hh] at hx
      cases hx
      exact h2 rfl
theorem DT.kt {base : Nat} {w w' : World} {b : Nat} {v : Value} {lim sq : Int} {l : List Rw} (h : DT base w b v lim sq l) (k : KT w w') : DT base w' b v lim sq l := by
  refine ⟨h.1, k _ _ _ _ h.2.1 (by decide) (by decide), ?_⟩
  obtain ⟨q1, q2 | ⟨g, cap, cu, hv, hg, hh, r⟩⟩ := h.2.2
  · exact ⟨q1, .inl q2⟩
  · exact ⟨q1, .inr ⟨g, cap, cu, hv, hg, k _ _ _ _ hh (by decide) (by decide), r⟩⟩
theorem TB.ke {base bt : Nat} {w w' : World} {lim cnt trn : Int} {ls : Nat → List Rw} (h : TB base w bt lim cnt trn ls) (k : KE w w') : TB base w' bt lim cnt trn ls := by
  obtain ⟨vs, h1, h2, h3, h4, h5⟩ := h
  refine ⟨vs, h1, h2, k _ _ _ _ h3 (by decide) (by decide), fun i hi => ?_, h5⟩
  obtain ⟨q1, q2 | ⟨g, cap, cu, hv, hg, hh, r⟩⟩ := h4 i hi
  · exact ⟨q1, .inl q2⟩
  · exact ⟨q1, .inr ⟨g, cap, cu, hv, hg, k _ _ _ _ hh (by decide) (by decide), r⟩⟩
theorem DT.below {base : Nat} {w w' : World} {b : Nat} {v : Value} {lim sq : Int} {l : List Rw} (h : DT base w b v lim sq l) (hb : base ≤ w.heap.size) (k : But (fun g => g = b ∨ v.ownBlock = some g) w w') : Below base w w' := k.below hb (fun x hx e => by rcases e with rfl | e; (· have := h.1; omega); (· have := (h.lt e).1; omega))

/-- As many rows as the limit lets in, each with a time that may be. -/
def Wfl (lim : Int) (l : List Rw) : Prop := (l.length : Int) ≤ lim ∧ ∀ r ∈ l, 0 ≤ r.till ∧ r.till ≤ 1099511627776
/-- No turn stands twice, and none is above the last. -/
def Wft (trn : Int) (l : List Rw) : Prop := (∀ r ∈ l, r.turn ≤ trn) ∧ l.Pairwise (fun x y => x.turn ≠ y.turn)
theorem Wft.add {trn : Int} {l : List Rw} (h : Wft trn l) {r : Rw} (hr : r.turn = trn + 1) : Wft (trn + 1) (l ++ [r]) := by
  refine ⟨fun x hx => ?_, List.pairwise_append.2 ⟨h.2, by simp, fun x hx y hy => ?_⟩⟩
  · rcases List.mem_append.1 hx with hx | hx
    · have := h.1 x hx; omega
    · obtain rfl : x = r := by simpa using hx
      omega
  · obtain rfl : y = r := by simpa using hy
    have := h.1 x hx
    omega
theorem Wft.move {trn : Int} {l : List Rw} (h : Wft trn l) (k : Nat) (t : Int) : Wft (trn + 1) (l.modify k (fun r => { r with till := t, turn := trn + 1 })) := by
  refine ⟨fun x hx => ?_, ?_⟩
  · obtain ⟨i, hi, rfl⟩ := List.getElem_of_mem hx
    rw [List.getElem_modify]
    have := h.1 (l[i]'(by simpa using hi)) (List.getElem_mem _)
    split
    · show trn + 1 ≤ trn + 1
      omega
    · omega
  · rw [List.pairwise_iff_getElem]
    intro i j hi hj hij
    have hi' : i < l.length := by simpa using hi
    have hj' : j < l.length := by simpa using hj
    have h1 := h.1 l[i] (List.getElem_mem _)
    have h2 := h.1 l[j] (List.getElem_mem _)
    have h3 := List.pairwise_iff_getElem.1 h.2 i j hi' hj' hij
    rw [List.getElem_modify, List.getElem_modify]
    split
    · split
      · omega
      · show trn + 1 ≠ l[j].turn
        omega
    · split
      · show l[i].turn ≠ trn + 1
        omega
      · exact h3
theorem Wft.erase {trn : Int} {l : List Rw} (h : Wft trn l) (k : Nat) : Wft trn (l.eraseIdx k) := ⟨fun r hr => h.1 r (List.mem_of_mem_eraseIdx hr), h.2.sublist (List.eraseIdx_sublist l k)⟩
theorem Wft.nil (trn : Int) : Wft trn [] := ⟨fun r hr => (by cases hr), List.Pairwise.nil⟩
/-- Each row stands under its own key, and its key's numbers are of their kinds. -/
def Wfk (l : List Rw) : Prop := ∀ r ∈ l, kyp r.p r.a = r.a ∧ (0 ≤ r.s ∧ r.s ≤ 4294967295) ∧ (0 ≤ r.d ∧ r.d ≤ 4294967295) ∧ (0 ≤ r.a ∧ r.a ≤ 65535) ∧ (0 ≤ r.b ∧ r.b ≤ 65535)
theorem kyp_twice (p a : Int) : kyp p (kyp p a) = kyp p a := by unfold kyp; split <;> rfl
theorem kyp_bd {p a : Int} (h : 0 ≤ a ∧ a ≤ 65535) : 0 ≤ kyp p a ∧ kyp p a ≤ 65535 := by unfold kyp; split <;> omega
theorem Wfk.modify {l : List Rw} (h : Wfk l) (k : Nat) (x y : Int) : Wfk (l.modify k (fun r => { r with till := x, turn := y })) := fun r hr => by
  obtain ⟨i, hi, rfl⟩ := List.getElem_of_mem hr
  have := h (l[i]'(by simpa using hi)) (List.getElem_mem _)
  rw [List.getElem_modify]
  split <;> exact this
/-- Both tables, which hold the same. -/
def PT (base : Nat) (W : World) (bt bd : Nat) (lim : Int) (n : Nat) : Prop := ∃ ls v l trn, TB base W bt lim (l.length : Nat) trn ls ∧ DT base W bd v lim trn l ∧ Rel ls l ∧ (∀ i, (ls i).length ≤ n) ∧ l.length ≤ n ∧ 0 ≤ trn ∧ trn ≤ n ∧ Wfl lim l ∧ Wft trn l ∧ Wfk l
theorem PT.later {base : Nat} {A B : World} {bt bd : Nat} {lim : Int} {n : Nat} (h : PT base A bt bd lim n) (k : Later A B) : PT base B bt bd lim n := by
  obtain ⟨ls, v, l, trn, h1, h2, h3⟩ := h
  exact ⟨ls, v, l, trn, h1.later k, h2.later k, h3⟩
theorem PT.mono {base : Nat} {A : World} {bt bd : Nat} {lim : Int} {n m : Nat} (h : PT base A bt bd lim n) (k : n ≤ m) : PT base A bt bd lim m := by
  obtain ⟨ls, v, l, trn, h1, h2, h3, h4, h5, h6, h7, h8⟩ := h
  exact ⟨ls, v, l, trn, h1, h2, h3, fun i => Nat.le_trans (h4 i) k, Nat.le_trans h5 k, h6, by omega, h8⟩
theorem key_neq {p s d a b : Int} {r : Rw} (h : isK p s d (kyp p a) b r = false) (id till sq : Int) : rky r ≠ rky ⟨p, s, d, kyp p a, b, id, till, sq⟩ := fun e => by
  have : isK p s d (kyp p a) b r = true := isK_iff.2 (by rw [e]; rfl)
  rw [h] at this
  cases this
theorem pe_eq {ls : Nat → List Rw} {l : List Rw} (h : Rel ls l) (lim p s d a b till : Int) : pute lim (l.length : Nat) ls p s d a b till = rpe lim l p s d a b till := by
  unfold pute rpe
  by_cases hk : kx p s d a b ls = none
  · rw [hk, (h.kxe p s d a b).1 hk]
  · have hk2 : kix p s d (kyp p a) b l ≠ none := fun e => hk ((h.kxe p s d a b).2 e)
    rw [if_pos hk, if_pos hk2]
theorem me_eq {ls : Nat → List Rw} {l : List Rw} (h : Rel ls l) (p s d a b till : Int) : move ls p s d a b till = rme l p s d a b till := by
  unfold move rme
  by_cases hk : kx p s d a b ls = none
  · rw [if_pos hk, if_pos ((h.kxe p s d a b).1 hk)]
  · rw [if_neg hk, if_neg (fun e => hk ((h.kxe p s d a b).2 e))]
theorem de_eq {ls : Nat → List Rw} {l : List Rw} (h : Rel ls l) (p s d a b : Int) : dpe ls p s d a b = rde l p s d a b := by
  unfold dpe rde
  by_cases hk : kx p s d a b ls = none
  · rw [if_pos hk, if_pos ((h.kxe p s d a b).1 hk)]
  · rw [if_neg hk, if_neg (fun e => hk ((h.kxe p s d a b).2 e))]
end Go.Proofs.Ytahphjindjlcpaa

/- Sorting up to twelve rows. -/
namespace Go.Proofs.Ytahphjindjlcpaa
open Go.RowKit Go.Shelf
set_option maxRecDepth 100000
set_option linter.unusedVariables false
set_option linter.unusedSimpArgs false

/-- Does a row stand ahead of another? -/
def ltR (x y : Rw) : Bool := decide (ordv x y < 0)
/-- A row put into rows that are in order, from behind. -/
def insF (x : Rw) (P : List Rw) : List Rw := (P.reverse.dropWhile (ltR x)).reverse ++ x :: (P.reverse.takeWhile (ltR x)).reverse
theorem insF_eq {x : Rw} {A B : List Rw} (hB : ∀ e ∈ B, ltR x e = true) (hA : ∀ e, A.getLast? = some e → ltR x e = false) : insF x (A ++ B) = A ++ x :: B := by
  have hB' : ∀ e ∈ B.reverse, ltR x e = true := fun e he => hB e (List.mem_reverse.1 he)
  have h1 : (B.reverse ++ A.reverse).takeWhile (ltR x) = B.reverse ++ A.reverse.takeWhile (ltR x) := List.takeWhile_append_of_pos hB'
  have h2 : (B.reverse ++ A.reverse).dropWhile (ltR x) = A.reverse.dropWhile (ltR x) := List.dropWhile_append_of_pos hB'
  have h3 : A.reverse.takeWhile (ltR x) = [] ∧ A.reverse.dropWhile (ltR x) = A.reverse := by
    cases hr : A.reverse with
    | nil => simp
    | cons e t =>
      have := hA e (by rw [List.getLast?_eq_head?_reverse, hr]; rfl)
      simp [List.takeWhile_cons, List.dropWhile_cons, this]
  unfold insF
  rw [List.reverse_append, h1, h2, h3.1, h3.2]
  simp
theorem insF_length (x : Rw) (P : List Rw) : (insF x P).length = P.length + 1 := by
  have := congrArg List.length (List.takeWhile_append_dropWhile (p := ltR x) (l := P.reverse))
  rw [List.length_append, List.length_reverse] at this
  unfold insF
  rw [List.length_append, List.length_cons, List.length_reverse, List.length_reverse]
  omega
def isort (l : List Rw) : List Rw := l.foldl (fun P x => insF x P) []
theorem isort_snoc (l : List Rw) (x : Rw) : isort (l ++ [x]) = insF x (isort l) := by unfold isort; simp
theorem isort_length (l : List Rw) : (isort l).length = l.length := by
  have : ∀ (m : List Rw) (P : List Rw), (m.foldl (fun P x => insF x P) P).length = P.length + m.length := by
    intro m
    induction m with
    | nil => intro P; simp
    | cons x m ih => intro P; rw [List.foldl_cons, ih, insF_length]; simp; omega
  unfold isort
  rw [this]
  simp

set_option maxHeartbeats 8000000 in
theorem insert_any (g cap : Nat) (l : List Rw) (post : List Value) (w : World) (hl1 : 1 ≤ l.length) (hl : l.length ≤ 12) (hcap : l.length ≤ cap ∧ cap ≤ 9223372036854775807)
    (hh : w.heap[g]? = some (.cells (rws l ++ post).toArray 65 (0, 0))) :
    Calls Try.prog 57 #[.slice (some ⟨g, 0, none⟩) l.length cap, .int .i64 0, .int .i64 (l.length : Int), .func (.func 41) #[] #[]] w fun e w' => (∃ u, e = .returned u) ∧ w'.heap[g]? = some (.cells (rws (isort l) ++ post).toArray 65 (0, 0)) ∧ But (fun b => b = g) w w' := by
  go_enter Try.func57, Try.ntmps57
  go_wp2_with fail
  go_loopw [8] (fun i wr => ∃ k : Nat, 1 ≤ k ∧ k ≤ l.length ∧ i = .int .i64 (k : Int) ∧ wr.heap[g]? = some (.cells (rws (isort (l.take k) ++ l.drop k) ++ post).toArray 65 (0, 0)) ∧ But (fun b => b = g) w wr) (fun i _ => l.length - (intOf i).toNat)
  case atStart => exact ⟨1, by omega, by omega, rfl, by
    have : isort (l.take 1) ++ l.drop 1 = l := by
      cases l with
      | nil => simp at hl1
      | cons x l => simp [isort, insF]
    rw [this]
    exact hh, But.refl _ _⟩
  case round =>
    obtain ⟨k, hk1, hk, rfl, hcr, hbt⟩ := hrel
    rename World => w1
    by_cases hlt : k < l.length
    · have hlt' : (k : Int) < l.length := by omega
      have hP : (isort (l.take k)).length = k := by rw [isort_length, List.length_take]; omega
      have htk : isort (l.take (k + 1)) = insF l[k] (isort (l.take k)) := by rw [← List.take_append_getElem hlt, isort_snoc]
      have hdk : l.drop k = l[k] :: l.drop (k + 1) := List.drop_eq_getElem_cons hlt
      rw [hdk] at hcr
      have HTK := hide htk
      clear htk hdk
      generalize l[k] = x at *
      generalize isort (l.take k) = P at *
      generalize hsf : l.drop (k + 1) = suf at *
      have hsl : suf.length = l.length - (k + 1) := by rw [← hsf, List.length_drop]
      have HSF := hide hsf
      clear hsf
      go_wp2_with fail
      go_loopw [9] (fun j wr => ∃ A B, P = A ++ B ∧ j = .int .i64 (A.length : Int) ∧ (∀ e ∈ B, ltR x e = true) ∧ wr.heap[g]? = some (.cells (rws A ++ (rwc x ++ (rws (B ++ suf) ++ post))).toArray 65 (0, 0)) ∧ But (fun b => b = g) w wr) (fun j _ => (intOf j).toNat)
      case atStart => exact ⟨P, [], by simp, by rw [hP], by simp, by rw [hcr, rws_append, rws_cons]; simp, hbt⟩
      case round =>
        obtain ⟨A, B, hAB, rfl, hB, hci, hbi⟩ := hrel
        rename World => w2
        rcases List.eq_nil_or_concat A with rfl | ⟨A', y, rfl⟩
        · simp only [List.length_nil]
          go_upto_region 4 with fail
          go_quiet (fail)
          rw [List.nil_append] at hAB
          have ld : Later w2 (w2.drewN nq) := below_draw (Below.refl _ _) nq
          have hcd := later_keep ld hci
          have hbd := hbi.trans (But.of ld)
          have HREL : Hid (∃ k' : Nat, 1 ≤ k' ∧ k' ≤ l.length ∧ (Value.int .i64 ((k : Int) + 1)) = .int .i64 (k' : Int) ∧ (w2.drewN nq).heap[g]? = some (.cells (rws (isort (l.take k') ++ l.drop k') ++ post).toArray 65 (0, 0)) ∧ But (fun b => b = g) w (w2.drewN nq)) :=
            ⟨k + 1, by omega, by omega, by simp, by
              have hin := insF_eq (A := []) hB (fun e he => by cases he)
              rw [List.nil_append] at hin
              rw [HTK.out, HSF.out, hAB, hin, hcd]
              simp [rws], hbd⟩
          go_wp2_with fail
          go_roundw
          case rel => exact HREL.out
          case measure => simp [intOf]; omega
        · have hrl : (rws A').length = A'.length * 8 := rws_length _
          have hci' : w2.heap[g]? = some (.cells (rws A' ++ (rwc y ++ (rwc x ++ (rws (B ++ suf) ++ post)))).toArray 65 (0, 0)) := by rw [hci]; simp [rws]
          have hlp : (A' ++ [y]).length = A'.length + 1 := by simp
          have hkl : k = A'.length + 1 + B.length := by rw [← hP, hAB]; simp; omega
          clear hci hcr
          try simp only [List.concat_eq_append] at *
          generalize hpp : (A' ++ [y]).length = p at *
          generalize hqq : A'.length = q at *
          have HPP := hide hpp
          have HQQ := hide hqq
          have HAB := hide hAB
          clear hpp hqq hAB
          have e9 : (p : Int) - 1 = (q : Int) := by omega
          have g0 : (0 : Int) < (p : Int) := by omega
          have g00 : 0 < p := by omega
          have q1 : (q : Int) < l.length := by omega
          have p1 : (p : Int) < l.length := by omega
          have HLP := hide hlp
          have HWR : Hid (IntKind.i64.wrap (q : Int) = (q : Int)) := by
            have : (q : Int) < 12 := by omega
            show _ = _
            simp [IntKind.wrap, IntKind.bits, IntKind.signed]
            omega
          clear hlp hkl
          go_upto_region 4 with fail
          refine anyT_begin (R := Later) 17 rfl (by kernel_rfl) ?_
          have ld : Later w2 w2.drew := Later.drew w2
          have hcd := later_keep ld hci'
          have hbd := hbi.trans (But.of ld)
          clear hci' hbi ld
          generalize w2.drew = Wd at *
          have HY : Hid (∀ v1, Later Wd v1 → ∀ i, i < 8 → v1.cell? ⟨g, q * 8 + i, none⟩ = (rwc y)[i]?) := fun v1 h i hi => by
            rw [block_cell (later_keep h hcd), List.getElem?_toArray, List.getElem?_append_right (by omega), hrl, Nat.add_sub_cancel_left, List.getElem?_append_left (by rw [rwc_length]; exact hi)]
          have HX : Hid (∀ v1, Later Wd v1 → ∀ i, i < 8 → v1.cell? ⟨g, p * 8 + i, none⟩ = (rwc x)[i]?) := fun v1 h i hi => by
            have hlp := HLP.out; rw [block_cell (later_keep h hcd), List.getElem?_toArray, List.getElem?_append_right (by omega), hrl, List.getElem?_append_right (by rw [rwc_length]; omega), rwc_length, show p * 8 + i - q * 8 - 8 = i from by omega, List.getElem?_append_left (by rw [rwc_length]; exact hi)]
          have y0 : ∀ v1, Later Wd v1 → v1.cell? ⟨g, q * 8, none⟩ = some (.int .u8 y.p) := fun v1 h => (HY.out v1 h 0 (by omega))
          have y1 : ∀ v1, Later Wd v1 → v1.cell? ⟨g, q * 8 + 1, none⟩ = some (.int .u32 y.s) := fun v1 h => (HY.out v1 h 1 (by omega))
          have y2 : ∀ v1, Later Wd v1 → v1.cell? ⟨g, q * 8 + 2, none⟩ = some (.int .u32 y.d) := fun v1 h => (HY.out v1 h 2 (by omega))
          have y3 : ∀ v1, Later Wd v1 → v1.cell? ⟨g, q * 8 + 3, none⟩ = some (.int .u16 y.a) := fun v1 h => (HY.out v1 h 3 (by omega))
          have y4 : ∀ v1, Later Wd v1 → v1.cell? ⟨g, q * 8 + 4, none⟩ = some (.int .u16 y.b) := fun v1 h => (HY.out v1 h 4 (by omega))
          have y5 : ∀ v1, Later Wd v1 → v1.cell? ⟨g, q * 8 + 5, none⟩ = some (.int .i64 y.id) := fun v1 h => (HY.out v1 h 5 (by omega))
          have y6 : ∀ v1, Later Wd v1 → v1.cell? ⟨g, q * 8 + 6, none⟩ = some (.int .i64 y.till) := fun v1 h => (HY.out v1 h 6 (by omega))
          have y7 : ∀ v1, Later Wd v1 → v1.cell? ⟨g, q * 8 + 7, none⟩ = some (.int .i64 y.turn) := fun v1 h => (HY.out v1 h 7 (by omega))
          have x0 : ∀ v1, Later Wd v1 → v1.cell? ⟨g, p * 8, none⟩ = some (.int .u8 x.p) := fun v1 h => (HX.out v1 h 0 (by omega))
          have x1 : ∀ v1, Later Wd v1 → v1.cell? ⟨g, p * 8 + 1, none⟩ = some (.int .u32 x.s) := fun v1 h => (HX.out v1 h 1 (by omega))
          have x2 : ∀ v1, Later Wd v1 → v1.cell? ⟨g, p * 8 + 2, none⟩ = some (.int .u32 x.d) := fun v1 h => (HX.out v1 h 2 (by omega))
          have x3 : ∀ v1, Later Wd v1 → v1.cell? ⟨g, p * 8 + 3, none⟩ = some (.int .u16 x.a) := fun v1 h => (HX.out v1 h 3 (by omega))
          have x4 : ∀ v1, Later Wd v1 → v1.cell? ⟨g, p * 8 + 4, none⟩ = some (.int .u16 x.b) := fun v1 h => (HX.out v1 h 4 (by omega))
          have x5 : ∀ v1, Later Wd v1 → v1.cell? ⟨g, p * 8 + 5, none⟩ = some (.int .i64 x.id) := fun v1 h => (HX.out v1 h 5 (by omega))
          have x6 : ∀ v1, Later Wd v1 → v1.cell? ⟨g, p * 8 + 6, none⟩ = some (.int .i64 x.till) := fun v1 h => (HX.out v1 h 6 (by omega))
          have x7 : ∀ v1, Later Wd v1 → v1.cell? ⟨g, p * 8 + 7, none⟩ = some (.int .i64 x.turn) := fun v1 h => (HX.out v1 h 7 (by omega))
          refine anyT_val Later.pre 0 rfl (by kernel_rfl) (by kernel_rfl) (by kernel_rfl) (fun _ _ _ _ h => h) rfl ?_; apply Exists.intro; refine ⟨fun v1 hv1 => ?_, ?_⟩; (· (go_simp; rfl)); simp only [Act.put, List.setIfInBounds_toArray, List.set_cons_zero, List.set_cons_succ]
          refine anyT_val Later.pre 1 rfl (by kernel_rfl) (by kernel_rfl) (by kernel_rfl) (fun _ _ _ _ h => h) rfl ?_; apply Exists.intro; refine ⟨fun v1 hv1 => ?_, ?_⟩; (· (go_simp; rfl)); simp only [Act.put, List.setIfInBounds_toArray, List.set_cons_zero, List.set_cons_succ]
          refine anyT_val Later.pre 2 rfl (by kernel_rfl) (by kernel_rfl) (by kernel_rfl) (fun _ _ _ _ h => h) rfl ?_
          refine ⟨.bool true, fun v1 hv1 => ?_, ?_⟩
          · go_simp
            try simp [g00, g0]
          simp only [Act.put, List.setIfInBounds_toArray, List.set_cons_zero, List.set_cons_succ]
          refine anyT_val Later.pre 3 rfl (by kernel_rfl) (by kernel_rfl) (by kernel_rfl) (fun _ _ _ _ h => h) rfl ?_; apply Exists.intro; refine ⟨fun v1 hv1 => ?_, ?_⟩; (· (go_simp; rfl)); simp only [Act.put, List.setIfInBounds_toArray, List.set_cons_zero, List.set_cons_succ]
          refine anyT_valG Later.pre 4 rfl (by kernel_rfl) (by kernel_rfl) (by kernel_rfl) (fun _ _ _ _ h => h) (by rfl) ?_; apply Exists.intro; refine ⟨fun v1 hv1 => ?_, ?_⟩; (· (go_simp; rfl)); simp only [Act.put, List.setIfInBounds_toArray, List.set_cons_zero, List.set_cons_succ]
          refine anyT_valG Later.pre 5 rfl (by kernel_rfl) (by kernel_rfl) (by kernel_rfl) (fun _ _ _ _ h => h) (by rfl) ?_; apply Exists.intro; refine ⟨fun v1 hv1 => ?_, ?_⟩; (· (go_simp; rfl)); simp only [Act.put, List.setIfInBounds_toArray, List.set_cons_zero, List.set_cons_succ]
          refine anyT_valG Later.pre 6 rfl (by kernel_rfl) (by kernel_rfl) (by kernel_rfl) (fun _ _ _ _ h => h) (by rfl) ?_; apply Exists.intro; refine ⟨fun v1 hv1 => ?_, ?_⟩; (· (go_simp; rfl)); simp only [Act.put, List.setIfInBounds_toArray, List.set_cons_zero, List.set_cons_succ]
          refine anyT_valG Later.pre 7 rfl (by kernel_rfl) (by kernel_rfl) (by kernel_rfl) (fun _ _ _ _ h => h) (by rfl) ?_; apply Exists.intro; refine ⟨fun v1 hv1 => ?_, ?_⟩; (· (go_simp; rfl)); simp only [Act.put, List.setIfInBounds_toArray, List.set_cons_zero, List.set_cons_succ]
          refine anyT_valG Later.pre 8 rfl (by kernel_rfl) (by kernel_rfl) (by kernel_rfl) (fun _ _ _ _ h => h) (by rfl) ?_; apply Exists.intro; refine ⟨fun v1 hv1 => ?_, ?_⟩; (· (go_simp; rfl)); simp only [Act.put, List.setIfInBounds_toArray, List.set_cons_zero, List.set_cons_succ]
          refine anyT_valG Later.pre 9 rfl (by kernel_rfl) (by kernel_rfl) (by kernel_rfl) (fun _ _ _ _ h => h) (by rfl) ?_; apply Exists.intro; refine ⟨fun v1 hv1 => ?_, ?_⟩; (· (go_simp; rfl)); simp only [Act.put, List.setIfInBounds_toArray, List.set_cons_zero, List.set_cons_succ]
          refine anyT_valG Later.pre 10 rfl (by kernel_rfl) (by kernel_rfl) (by kernel_rfl) (fun _ _ _ _ h => h) (by rfl) ?_; apply Exists.intro; refine ⟨fun v1 hv1 => ?_, ?_⟩; (· (go_simp; rfl)); simp only [Act.put, List.setIfInBounds_toArray, List.set_cons_zero, List.set_cons_succ]
          refine anyT_valG Later.pre 11 rfl (by kernel_rfl) (by kernel_rfl) (by kernel_rfl) (fun _ _ _ _ h => h) (by rfl) ?_; refine ⟨.int .i64 (q : Int), fun v1 hv1 => ?_, ?_⟩; (· (go_simp; rw [HWR.out])); simp only [Act.put, List.setIfInBounds_toArray, List.set_cons_zero, List.set_cons_succ]
          refine anyT_valG Later.pre 12 rfl (by kernel_rfl) (by kernel_rfl) (by kernel_rfl) (fun _ _ _ _ h => h) (by rfl) ?_; apply Exists.intro; refine ⟨fun v1 hv1 => ?_, ?_⟩; (· (go_simp; rfl)); simp only [Act.put, List.setIfInBounds_toArray, List.set_cons_zero, List.set_cons_succ]
          refine anyT_valG Later.pre 13 rfl (by kernel_rfl) (by kernel_rfl) (by kernel_rfl) (fun _ _ _ _ h => h) (by rfl) ?_; apply Exists.intro; refine ⟨fun v1 hv1 => ?_, ?_⟩; (· (go_simp; rfl)); simp only [Act.put, List.setIfInBounds_toArray, List.set_cons_zero, List.set_cons_succ]
          clear y0 y1 y2 y3 y4 y5 y6 y7 x0 x1 x2 x3 x4 x5 x6 x7
          refine anyT_oneG 14 rfl (by kernel_rfl) (by rfl) ?_
          refine wp_enter 41 #[.agg #[.int .u8 x.p, .int .u32 x.s, .int .u32 x.d, .int .u16 x.a, .int .u16 x.b, .int .i64 x.id, .int .i64 x.till, .int .i64 x.turn], .agg #[.int .u8 y.p, .int .u32 y.s, .int .u32 y.d, .int .u16 y.a, .int .u16 y.b, .int .i64 y.id, .int .i64 y.till, .int .i64 y.turn]] (by go_simp) ?_
          refine (inOrder_any x y Wd).mono ?_
          rintro e W1 ⟨rfl, hb1⟩
          have m1 : Later Wd W1 := hb1
          refine ⟨m1, ?_⟩
          simp only [Act.put, List.setIfInBounds_toArray, List.set_cons_zero, List.set_cons_succ]
          have hc1 := later_keep m1 hcd
          have hb1' := hbd.trans (But.of m1)
          clear hcd hbd m1 hb1 HY HX
          have HLT : Hid (ltR x y = decide (ordv x y < 0)) := rfl
          generalize ordv x y = o at *
          by_cases ho : o < 0
          · refine anyT_valG Later.pre 15 rfl (by kernel_rfl) (by kernel_rfl) (by kernel_rfl) (fun _ _ _ _ h => h) (by rfl) ?_; apply Exists.intro; refine ⟨fun v1 hv1 => ?_, ?_⟩; (· (go_simp; rfl)); simp only [Act.put, List.setIfInBounds_toArray, List.set_cons_zero, List.set_cons_succ]
            refine anyT_val Later.pre 16 rfl (by kernel_rfl) (by kernel_rfl) (by kernel_rfl) (fun _ _ _ _ h => h) rfl ?_; apply Exists.intro; refine ⟨fun v1 hv1 => ?_, ?_⟩; (· (go_simp; rfl)); simp only [Act.put, List.setIfInBounds_toArray, List.set_cons_zero, List.set_cons_succ]
            refine anyT_done (by kernel_rfl) ?_
            go_upto_region 6 with fail
            refine anyU_begin (R1 := Later) (R2 := But (fun b => b = g)) (D := [15, 17]) 18 rfl (by kernel_rfl) ?_
            have ld : Later W1 W1.drew := Later.drew W1
            have hcd := later_keep ld hc1
            have hbd := hb1'.trans (But.of ld)
            clear hc1 hb1' ld
            generalize W1.drew = We at *
            have HYe : Hid (∀ v1, Later We v1 → ∀ i, i < 8 → v1.cell? ⟨g, q * 8 + i, none⟩ = (rwc y)[i]?) := fun v1 h i hi => by
              rw [block_cell (later_keep h hcd), List.getElem?_toArray, List.getElem?_append_right (by omega), hrl, Nat.add_sub_cancel_left, List.getElem?_append_left (by rw [rwc_length]; exact hi)]
            have HXe : Hid (∀ v1, Later We v1 → ∀ i, i < 8 → v1.cell? ⟨g, p * 8 + i, none⟩ = (rwc x)[i]?) := fun v1 h i hi => by
              have hlp := HLP.out; rw [block_cell (later_keep h hcd), List.getElem?_toArray, List.getElem?_append_right (by omega), hrl, List.getElem?_append_right (by rw [rwc_length]; omega), rwc_length, show p * 8 + i - q * 8 - 8 = i from by omega, List.getElem?_append_left (by rw [rwc_length]; exact hi)]
            have y0e : ∀ v1, Later We v1 → v1.cell? ⟨g, q * 8, none⟩ = some (.int .u8 y.p) := fun v1 h => (HYe.out v1 h 0 (by omega))
            have y1e : ∀ v1, Later We v1 → v1.cell? ⟨g, q * 8 + 1, none⟩ = some (.int .u32 y.s) := fun v1 h => (HYe.out v1 h 1 (by omega))
            have y2e : ∀ v1, Later We v1 → v1.cell? ⟨g, q * 8 + 2, none⟩ = some (.int .u32 y.d) := fun v1 h => (HYe.out v1 h 2 (by omega))
            have y3e : ∀ v1, Later We v1 → v1.cell? ⟨g, q * 8 + 3, none⟩ = some (.int .u16 y.a) := fun v1 h => (HYe.out v1 h 3 (by omega))
            have y4e : ∀ v1, Later We v1 → v1.cell? ⟨g, q * 8 + 4, none⟩ = some (.int .u16 y.b) := fun v1 h => (HYe.out v1 h 4 (by omega))
            have y5e : ∀ v1, Later We v1 → v1.cell? ⟨g, q * 8 + 5, none⟩ = some (.int .i64 y.id) := fun v1 h => (HYe.out v1 h 5 (by omega))
            have y6e : ∀ v1, Later We v1 → v1.cell? ⟨g, q * 8 + 6, none⟩ = some (.int .i64 y.till) := fun v1 h => (HYe.out v1 h 6 (by omega))
            have y7e : ∀ v1, Later We v1 → v1.cell? ⟨g, q * 8 + 7, none⟩ = some (.int .i64 y.turn) := fun v1 h => (HYe.out v1 h 7 (by omega))
            have x0e : ∀ v1, Later We v1 → v1.cell? ⟨g, p * 8, none⟩ = some (.int .u8 x.p) := fun v1 h => (HXe.out v1 h 0 (by omega))
            have x1e : ∀ v1, Later We v1 → v1.cell? ⟨g, p * 8 + 1, none⟩ = some (.int .u32 x.s) := fun v1 h => (HXe.out v1 h 1 (by omega))
            have x2e : ∀ v1, Later We v1 → v1.cell? ⟨g, p * 8 + 2, none⟩ = some (.int .u32 x.d) := fun v1 h => (HXe.out v1 h 2 (by omega))
            have x3e : ∀ v1, Later We v1 → v1.cell? ⟨g, p * 8 + 3, none⟩ = some (.int .u16 x.a) := fun v1 h => (HXe.out v1 h 3 (by omega))
            have x4e : ∀ v1, Later We v1 → v1.cell? ⟨g, p * 8 + 4, none⟩ = some (.int .u16 x.b) := fun v1 h => (HXe.out v1 h 4 (by omega))
            have x5e : ∀ v1, Later We v1 → v1.cell? ⟨g, p * 8 + 5, none⟩ = some (.int .i64 x.id) := fun v1 h => (HXe.out v1 h 5 (by omega))
            have x6e : ∀ v1, Later We v1 → v1.cell? ⟨g, p * 8 + 6, none⟩ = some (.int .i64 x.till) := fun v1 h => (HXe.out v1 h 6 (by omega))
            have x7e : ∀ v1, Later We v1 → v1.cell? ⟨g, p * 8 + 7, none⟩ = some (.int .i64 x.turn) := fun v1 h => (HXe.out v1 h 7 (by omega))
            refine anyU_pure Later.refl (But.refl _) 0 rfl (by kernel_rfl) (by kernel_rfl) (by kernel_rfl) (fun _ _ _ _ h => h) (by rfl) ?_; apply Exists.intro; refine ⟨fun v1 => ?_, ?_⟩; (· (go_simp; rfl)); simp only [Act.put, List.setIfInBounds_toArray, List.set_cons_zero, List.set_cons_succ]
            refine anyU_pure Later.refl (But.refl _) 1 rfl (by kernel_rfl) (by kernel_rfl) (by kernel_rfl) (fun _ _ _ _ h => h) (by rfl) ?_; apply Exists.intro; refine ⟨fun v1 => ?_, ?_⟩; (· (go_simp; rfl)); simp only [Act.put, List.setIfInBounds_toArray, List.set_cons_zero, List.set_cons_succ]
            refine anyU_pure Later.refl (But.refl _) 2 rfl (by kernel_rfl) (by kernel_rfl) (by kernel_rfl) (fun _ _ _ _ h => h) (by rfl) ?_; apply Exists.intro; refine ⟨fun v1 => ?_, ?_⟩; (· (go_simp; rfl)); simp only [Act.put, List.setIfInBounds_toArray, List.set_cons_zero, List.set_cons_succ]
            refine anyU_pure Later.refl (But.refl _) 3 rfl (by kernel_rfl) (by kernel_rfl) (by kernel_rfl) (fun _ _ _ _ h => h) (by rfl) ?_; apply Exists.intro; refine ⟨fun v1 => ?_, ?_⟩; (· (go_simp; rfl)); simp only [Act.put, List.setIfInBounds_toArray, List.set_cons_zero, List.set_cons_succ]
            refine anyU_pure Later.refl (But.refl _) 4 rfl (by kernel_rfl) (by kernel_rfl) (by kernel_rfl) (fun _ _ _ _ h => h) (by rfl) ?_; refine ⟨.int .i64 (q : Int), fun v1 => ?_, ?_⟩; (· (go_simp; rw [HWR.out])); simp only [Act.put, List.setIfInBounds_toArray, List.set_cons_zero, List.set_cons_succ]
            refine anyU_pure Later.refl (But.refl _) 5 rfl (by kernel_rfl) (by kernel_rfl) (by kernel_rfl) (fun _ _ _ _ h => h) (by rfl) ?_; apply Exists.intro; refine ⟨fun v1 => ?_, ?_⟩; (· (go_simp; rfl)); simp only [Act.put, List.setIfInBounds_toArray, List.set_cons_zero, List.set_cons_succ]
            refine anyU_pure Later.refl (But.refl _) 6 rfl (by kernel_rfl) (by kernel_rfl) (by kernel_rfl) (fun _ _ _ _ h => h) (by rfl) ?_; apply Exists.intro; refine ⟨fun v1 => ?_, ?_⟩; (· (go_simp; rfl)); simp only [Act.put, List.setIfInBounds_toArray, List.set_cons_zero, List.set_cons_succ]
            refine anyU_pure Later.refl (But.refl _) 7 rfl (by kernel_rfl) (by kernel_rfl) (by kernel_rfl) (fun _ _ _ _ h => h) (by rfl) ?_; refine ⟨.int .i64 (q : Int), fun v1 => ?_, ?_⟩; (· (go_simp; rw [HWR.out])); simp only [Act.put, List.setIfInBounds_toArray, List.set_cons_zero, List.set_cons_succ]
            refine anyU_pure Later.refl (But.refl _) 8 rfl (by kernel_rfl) (by kernel_rfl) (by kernel_rfl) (fun _ _ _ _ h => h) (by rfl) ?_; apply Exists.intro; refine ⟨fun v1 => ?_, ?_⟩; (· (go_simp; rfl)); simp only [Act.put, List.setIfInBounds_toArray, List.set_cons_zero, List.set_cons_succ]
            refine anyU_val Later.pre 9 [15, 17] rfl (by rfl) (by rfl) (by kernel_rfl) (by kernel_rfl) (by kernel_rfl) (by kernel_rfl) (by kernel_rfl) (fun _ _ _ _ h => h) (by rfl) ?_; apply Exists.intro; refine ⟨fun v1 hv1 => ?_, ?_⟩; (· (go_simp; rfl)); simp only [Act.put, List.setIfInBounds_toArray, List.set_cons_zero, List.set_cons_succ]
            refine anyU_pure Later.refl (But.refl _) 10 rfl (by kernel_rfl) (by kernel_rfl) (by kernel_rfl) (fun _ _ _ _ h => h) (by rfl) ?_; apply Exists.intro; refine ⟨fun v1 => ?_, ?_⟩; (· (go_simp; rfl)); simp only [Act.put, List.setIfInBounds_toArray, List.set_cons_zero, List.set_cons_succ]
            refine anyU_pure Later.refl (But.refl _) 11 rfl (by kernel_rfl) (by kernel_rfl) (by kernel_rfl) (fun _ _ _ _ h => h) (by rfl) ?_; apply Exists.intro; refine ⟨fun v1 => ?_, ?_⟩; (· (go_simp; rfl)); simp only [Act.put, List.setIfInBounds_toArray, List.set_cons_zero, List.set_cons_succ]
            refine anyU_pure Later.refl (But.refl _) 12 rfl (by kernel_rfl) (by kernel_rfl) (by kernel_rfl) (fun _ _ _ _ h => h) (by rfl) ?_; apply Exists.intro; refine ⟨fun v1 => ?_, ?_⟩; (· (go_simp; rfl)); simp only [Act.put, List.setIfInBounds_toArray, List.set_cons_zero, List.set_cons_succ]
            refine anyU_val Later.pre 13 [15, 17] rfl (by rfl) (by rfl) (by kernel_rfl) (by kernel_rfl) (by kernel_rfl) (by kernel_rfl) (by kernel_rfl) (fun _ _ _ _ h => h) (by rfl) ?_; apply Exists.intro; refine ⟨fun v1 hv1 => ?_, ?_⟩; (· (go_simp; rfl)); simp only [Act.put, List.setIfInBounds_toArray, List.set_cons_zero, List.set_cons_succ]
            refine anyU_pure Later.refl (But.refl _) 14 rfl (by kernel_rfl) (by kernel_rfl) (by kernel_rfl) (fun _ _ _ _ h => h) (by rfl) ?_; apply Exists.intro; refine ⟨fun v1 => ?_, ?_⟩; (· (go_simp; rfl)); simp only [Act.put, List.setIfInBounds_toArray, List.set_cons_zero, List.set_cons_succ]
            have c0 := x0e We (Later.refl We)
            have c1 := x1e We (Later.refl We)
            have c2 := x2e We (Later.refl We)
            have c3 := x3e We (Later.refl We)
            have c4 := x4e We (Later.refl We)
            have c5 := x5e We (Later.refl We)
            have c6 := x6e We (Later.refl We)
            have c7 := x7e We (Later.refl We)
            clear y0e y1e y2e y3e y4e y5e y6e y7e x0e x1e x2e x3e x4e x5e x6e x7e
            have Fe := block_frozen hcd
            have hput : (putRow We g (p * 8) (rwc y)).heap[g]? = some (.cells (rws A' ++ (rwc y ++ (rwc y ++ (rws (B ++ suf) ++ post)))).toArray 65 (0, 0)) := by
              have := putRow_mid (rwc y) (rws A' ++ rwc y) (rwc x) (rws (B ++ suf) ++ post) We (by rw [hcd, List.append_assoc]) rfl
              have hlp := HLP.out
              rw [List.length_append, hrl, rwc_length, show q * 8 + 8 = p * 8 from by omega, List.append_assoc] at this
              exact this
            have hbp : But (fun b => b = g) We (putRow We g (p * 8) (rwc y)) := putRow_but (E := fun b => b = g) rfl _ _ _ _ (But.refl _ _)
            have HPUT := hide hput
            have HBP := hide hbp
            clear hput hbp
            refine anyU_one 15 rfl (by kernel_rfl) (by rfl) ?_
            unfold Oper.wp
            go_simp
            refine ⟨Rj_in (by rfl) HBP.out, ?_⟩
            change wpAnyU _ _ _ _ _ _ _ _ _ _ (putRow We g (p * 8) (rwc y))
            have hp1 := HPUT.out
            have hbf := hbd.trans HBP.out
            clear c0 c1 c2 c3 c4 c5 c6 c7 HPUT HBP hcd hbd Fe HYe HXe
            generalize putRow We g (p * 8) (rwc y) = Wf at *
            have hyf : ∀ i, i < 8 → Wf.cell? ⟨g, q * 8 + i, none⟩ = (rwc y)[i]? := fun i hi => by
              rw [block_cell hp1, List.getElem?_toArray, List.getElem?_append_right (by omega), hrl, Nat.add_sub_cancel_left, List.getElem?_append_left (by rw [rwc_length]; exact hi)]
            have c0 : Wf.cell? ⟨g, q * 8, none⟩ = some (.int .u8 y.p) := hyf 0 (by omega)
            have c1 : Wf.cell? ⟨g, q * 8 + 1, none⟩ = some (.int .u32 y.s) := hyf 1 (by omega)
            have c2 : Wf.cell? ⟨g, q * 8 + 2, none⟩ = some (.int .u32 y.d) := hyf 2 (by omega)
            have c3 : Wf.cell? ⟨g, q * 8 + 3, none⟩ = some (.int .u16 y.a) := hyf 3 (by omega)
            have c4 : Wf.cell? ⟨g, q * 8 + 4, none⟩ = some (.int .u16 y.b) := hyf 4 (by omega)
            have c5 : Wf.cell? ⟨g, q * 8 + 5, none⟩ = some (.int .i64 y.id) := hyf 5 (by omega)
            have c6 : Wf.cell? ⟨g, q * 8 + 6, none⟩ = some (.int .i64 y.till) := hyf 6 (by omega)
            have c7 : Wf.cell? ⟨g, q * 8 + 7, none⟩ = some (.int .i64 y.turn) := hyf 7 (by omega)
            clear hyf
            refine anyU_pure Later.refl (But.refl _) 16 rfl (by kernel_rfl) (by kernel_rfl) (by kernel_rfl) (fun _ _ _ _ h => h) (by rfl) ?_; apply Exists.intro; refine ⟨fun v1 => ?_, ?_⟩; (· (go_simp; rfl)); simp only [Act.put, List.setIfInBounds_toArray, List.set_cons_zero, List.set_cons_succ]
            have Ff := block_frozen hp1
            have hput : (putRow Wf g (q * 8) (rwc x)).heap[g]? = some (.cells (rws A' ++ (rwc x ++ (rwc y ++ (rws (B ++ suf) ++ post)))).toArray 65 (0, 0)) := by
              have := putRow_mid (rwc x) (rws A') (rwc y) (rwc y ++ (rws (B ++ suf) ++ post)) Wf hp1 rfl
              rw [hrl] at this
              exact this
            have hbp : But (fun b => b = g) Wf (putRow Wf g (q * 8) (rwc x)) := putRow_but (E := fun b => b = g) rfl _ _ _ _ (But.refl _ _)
            have HPUT := hide hput
            have HBP := hide hbp
            clear hput hbp
            refine anyU_one 17 rfl (by kernel_rfl) (by rfl) ?_
            unfold Oper.wp
            go_simp
            refine ⟨Rj_in (by rfl) HBP.out, ?_⟩
            change wpAnyU _ _ _ _ _ _ _ _ _ _ (putRow Wf g (q * 8) (rwc x))
            have hp2 := HPUT.out
            have hbg := hbf.trans HBP.out
            clear c0 c1 c2 c3 c4 c5 c6 c7 HPUT HBP hp1 hbf Ff
            generalize putRow Wf g (q * 8) (rwc x) = Wg at *
            refine anyU_done (by kernel_rfl) ?_
            have HREL : Hid (∃ A B, P = A ++ B ∧ (Value.int .i64 (q : Int)) = .int .i64 (A.length : Int) ∧ (∀ e ∈ B, ltR x e = true) ∧ Wg.heap[g]? = some (.cells (rws A ++ (rwc x ++ (rws (B ++ suf) ++ post))).toArray 65 (0, 0)) ∧ But (fun b => b = g) w Wg) :=
              ⟨A', y :: B, by rw [HAB.out]; simp, by rw [HQQ.out], fun e he => by
                rcases List.mem_cons.1 he with rfl | he
                · rw [HLT.out]; simpa using ho
                · exact hB e he, by rw [hp2, List.cons_append, rws_cons]; simp, hbg⟩
            go_wp2_with fail
            go_roundw
            case rel => exact HREL.out
            case measure => simp [intOf]; omega
          · refine anyT_valG Later.pre 15 rfl (by kernel_rfl) (by kernel_rfl) (by kernel_rfl) (fun _ _ _ _ h => h) (by rfl) ?_; apply Exists.intro; refine ⟨fun v1 hv1 => ?_, ?_⟩; (· (go_simp; rfl)); simp only [Act.put, List.setIfInBounds_toArray, List.set_cons_zero, List.set_cons_succ]
            refine anyT_val Later.pre 16 rfl (by kernel_rfl) (by kernel_rfl) (by kernel_rfl) (fun _ _ _ _ h => h) rfl ?_; apply Exists.intro; refine ⟨fun v1 hv1 => ?_, ?_⟩; (· (go_simp; rfl)); simp only [Act.put, List.setIfInBounds_toArray, List.set_cons_zero, List.set_cons_succ]
            refine anyT_done (by kernel_rfl) ?_
            have HREL : Hid (∃ k' : Nat, 1 ≤ k' ∧ k' ≤ l.length ∧ (Value.int .i64 ((k : Int) + 1)) = .int .i64 (k' : Int) ∧ W1.heap[g]? = some (.cells (rws (isort (l.take k') ++ l.drop k') ++ post).toArray 65 (0, 0)) ∧ But (fun b => b = g) w W1) :=
              ⟨k + 1, by omega, by omega, by simp, by
                rw [HTK.out, HSF.out, HAB.out, insF_eq hB (fun e he => by
                  obtain rfl : e = y := by simpa using he.symm
                  rw [HLT.out]; simpa using ho), hc1]
                simp [rws], hb1'⟩
            go_wp2_with fail
            go_roundw
            case rel => exact HREL.out
            case measure => simp [intOf]; omega
    · obtain rfl : k = l.length := by omega
      rw [List.take_length, List.drop_length, List.append_nil] at hcr
      go_wp2_with fail
      go_end0
      exact ⟨⟨_, rfl⟩, hcr, hbt⟩

set_option maxHeartbeats 2000000 in
theorem pdq_few (g cap : Nat) (l : List Rw) (post : List Value) (lm : Int) (w : World) (hl1 : 1 ≤ l.length) (hl : l.length ≤ 12) (hcap : l.length ≤ cap ∧ cap ≤ 9223372036854775807)
    (hh : w.heap[g]? = some (.cells (rws l ++ post).toArray 65 (0, 0))) :
    Calls Try.prog 52 #[.slice (some ⟨g, 0, none⟩) l.length cap, .int .i64 0, .int .i64 (l.length : Int), .int .i64 lm, .func (.func 41) #[] #[]] w fun e w' => (∃ u, e = .returned u) ∧ w'.heap[g]? = some (.cells (rws (isort l) ++ post).toArray 65 (0, 0)) ∧ But (fun b => b = g) w w' := by
  have h1 : (l.length : Int) ≤ 12 := by omega
  go_enter Try.func52, Try.ntmps52
  go_wp2_with fail
  go_loopw [1, 2] (fun a b wr => a = .int .i64 0 ∧ b = .int .i64 (l.length : Int) ∧ wr = w) (fun _ _ _ => 0)
  case atStart => exact ⟨rfl, rfl, rfl⟩
  case round =>
    obtain ⟨rfl, rfl, rfl⟩ := hrel
    go_wp2_with fail
    refine (insert_any g cap l post wr hl1 hl hcap hh).mono ?_
    rintro e w1 ⟨⟨v, rfl⟩, hc, hb⟩
    go_wp2_with fail
    refine bodyPost_ret (results_none rfl _ _ _) rfl ?_
    exact ⟨⟨_, rfl⟩, hc, hb⟩

set_option maxHeartbeats 2000000 in
theorem sorts_few (l : List Rw) (hl : l.length ≤ 12) : SortsTo l (isort l) := by
  by_cases h0 : l.length = 0
  · obtain rfl : l = [] := List.eq_nil_of_length_eq_zero h0
    exact sorts_one [] (by simp)
  refine ⟨isort_length l, fun base v W hv => ?_⟩
  obtain ⟨h1, ⟨_, e⟩ | ⟨g, cap, cur, rfl, hgb, hh, hlc, hm, hs, hc⟩⟩ := hv
  · exact absurd e h0
  obtain ⟨post, hpost⟩ : ∃ post, cur.toList = rws l ++ post := ⟨cur.toList.drop (l.length * 8), by rw [← hc, List.take_append_drop]⟩
  have hh' : W.heap[g]? = some (.cells (rws l ++ post).toArray 65 (0, 0)) := by
    rw [hh, ← hpost]
  have hn : (l.length : Int) ≤ 12 := by omega
  have hm' : cap ≤ 9223372036854775807 := by simpa [maxLen] using hm
  have hpl : (rws (isort l) ++ post).length = cur.size := by
    have := congrArg List.length hpost
    rw [List.length_append, rws_length, Array.length_toList] at this
    rw [List.length_append, rws_length, isort_length]
    omega
  have HF : Hid (∀ W' : World, W'.heap[g]? = some (.cells (rws (isort l) ++ post).toArray 65 (0, 0)) → W'.ownsRow base 65 8 (.slice (some ⟨g, 0, none⟩) l.length cap) l.length (rws (isort l))) := fun W' hW' => by
    refine ⟨by rw [rws_length, isort_length], .inr ⟨g, cap, _, rfl, hgb, hW', hlc, hm, ?_, ?_⟩⟩
    · rw [List.size_toArray, hpl, hs]
    · rw [List.toList_toArray, List.take_left' (by rw [rws_length, isort_length])]
  have HH := hide hh'
  clear hh hh' hc hs hpost hpl h1
  go_enter Try.func40, Try.ntmps40
  go_wp2_with fail
  refine (len_few l.length W hl).mono ?_
  rintro e w1 ⟨⟨v, rfl⟩, rfl⟩
  go_wp2_with fail
  refine (pdq_few g cap l post v w1 (by omega) hl ⟨hlc, hm'⟩ HH.out).mono ?_
  rintro e w2 ⟨⟨v2, rfl⟩, hc2, hb2⟩
  go_wp2_with fail
  go_end0
  exact ⟨⟨_, rfl⟩, HF.out _ hc2, ⟨hb2.os, hb2.tape, hb2.output, hb2.size, fun k hk he => hb2.block k hk (fun e => he (by rw [e]; rfl))⟩⟩
end Go.Proofs.Ytahphjindjlcpaa

/- What sorting tells: a permutation, in order; what is due of it. -/
namespace Go.Proofs.Ytahphjindjlcpaa
open Go.RowKit Go.Shelf
set_option maxRecDepth 100000
set_option linter.unusedVariables false
set_option linter.unusedSimpArgs false

theorem ltR_iff {x y : Rw} : ltR x y = true ↔ x.till < y.till ∨ (x.till = y.till ∧ x.turn < y.turn) := by
  unfold ltR ordv orv cmpv
  rw [decide_eq_true_iff]
  split <;> split at * <;> (try split at *) <;> (try split at *) <;> omega
theorem insF_perm (x : Rw) (P : List Rw) : (insF x P).Perm (x :: P) := by
  unfold insF
  have h : (P.reverse.takeWhile (ltR x) ++ P.reverse.dropWhile (ltR x)).reverse = P := by rw [List.takeWhile_append_dropWhile, List.reverse_reverse]
  rw [List.reverse_append] at h
  have h2 := List.perm_middle (a := x) (l₁ := (P.reverse.dropWhile (ltR x)).reverse) (l₂ := (P.reverse.takeWhile (ltR x)).reverse)
  rw [h] at h2
  exact h2
theorem isort_perm (l : List Rw) : (isort l).Perm l := by
  have : ∀ (m P : List Rw), (m.foldl (fun P x => insF x P) P).Perm (P ++ m) := by
    intro m
    induction m with
    | nil => intro P; simp
    | cons x m ih =>
      intro P
      rw [List.foldl_cons]
      refine (ih _).trans ?_
      refine ((insF_perm x P).append_right m).trans ?_
      rw [List.cons_append]
      exact List.perm_middle.symm
  unfold isort
  simpa using this l []
/-- In order: what stands behind does not stand ahead. -/
def InO (l : List Rw) : Prop := l.Pairwise (fun x y => ltR y x = false)
theorem ltR_false {x y : Rw} : ltR x y = false ↔ ¬ (x.till < y.till ∨ (x.till = y.till ∧ x.turn < y.turn)) := by
  rw [← ltR_iff]
  simp
theorem ltR_step {x y z : Rw} (h1 : ltR y x = false) (h2 : ltR z y = false) : ltR z x = false := by
  rw [ltR_false] at *
  omega
theorem insF_inO {x : Rw} {P : List Rw} (h : InO P) : InO (insF x P) := by
  have hP : P = (P.reverse.dropWhile (ltR x)).reverse ++ (P.reverse.takeWhile (ltR x)).reverse := by
    rw [← List.reverse_append, List.takeWhile_append_dropWhile, List.reverse_reverse]
  have hB : ∀ e ∈ (P.reverse.takeWhile (ltR x)).reverse, ltR x e = true := fun e he => by
    have := List.all_takeWhile (p := ltR x) (l := P.reverse)
    rw [List.all_eq_true] at this
    exact this e (List.mem_reverse.1 he)
  have hA : ∀ e, (P.reverse.dropWhile (ltR x)).head? = some e → ltR x e = false := fun e he => by
    have := List.head?_dropWhile_not (ltR x) P.reverse
    rw [he] at this
    simpa using this
  unfold insF
  generalize hAe : (P.reverse.dropWhile (ltR x)).reverse = A at *
  generalize (P.reverse.takeWhile (ltR x)).reverse = B at *
  have hA' : ∀ e, A.getLast? = some e → ltR x e = false := fun e he => hA e (by rw [← hAe, List.getLast?_reverse] at he; exact he)
  unfold InO at *
  rw [hP] at h
  obtain ⟨h1, h2, h3⟩ := List.pairwise_append.1 h
  have hAx : ∀ e ∈ A, ltR x e = false := fun e he => by
    obtain ⟨A', y, rfl⟩ : ∃ A' y, A = A' ++ [y] := ⟨A.dropLast, A.getLast (List.ne_nil_of_mem he), (List.dropLast_concat_getLast (List.ne_nil_of_mem he)).symm⟩
    have hy := hA' y (by simp)
    rcases List.mem_append.1 he with he | he
    · exact ltR_step ((List.pairwise_append.1 h1).2.2 e he y (by simp)) hy
    · obtain rfl : e = y := by simpa using he
      exact hy
  refine List.pairwise_append.2 ⟨h1, List.pairwise_cons.2 ⟨fun e he => ?_, h2⟩, fun e he z hz => ?_⟩
  · have := hB e he
    rw [ltR_iff] at this
    rw [ltR_false]
    omega
  · rcases List.mem_cons.1 hz with rfl | hz
    · exact hAx e he
    · exact h3 e he z hz
theorem isort_inO (l : List Rw) : InO (isort l) := by
  have : ∀ (m P : List Rw), InO P → InO (m.foldl (fun P x => insF x P) P) := by
    intro m
    induction m with
    | nil => intro P h; exact h
    | cons x m ih => intro P h; exact ih _ (insF_inO h)
  exact this l [] List.Pairwise.nil
/-- Rows whose turns differ stand in one order alone. -/
theorem inO_unique : ∀ {l m : List Rw}, l.Perm m → InO l → InO m → l.Pairwise (fun x y => x.turn ≠ y.turn) → l = m
  | [], m, hp, _, _, _ => (List.Perm.nil_eq hp)
  | x :: l, [], hp, _, _, _ => absurd hp.length_eq (by simp)
  | x :: l, y :: m, hp, h1, h2, hd => by
    have hxy : x = y := by
      have hx : x ∈ y :: m := hp.mem_iff.1 (by simp)
      have hy : y ∈ x :: l := hp.mem_iff.2 (by simp)
      rcases List.mem_cons.1 hx with e | hx
      · exact e
      · rcases List.mem_cons.1 hy with e | hy
        · exact e.symm
        · have a1 := (List.pairwise_cons.1 h1).1 y hy
          have a2 := (List.pairwise_cons.1 h2).1 x hx
          have a3 := (List.pairwise_cons.1 hd).1 y hy
          rw [ltR_false] at a1 a2
          omega
    subst hxy
    rw [inO_unique ((List.perm_cons x).1 hp) (List.pairwise_cons.1 h1).2 (List.pairwise_cons.1 h2).2 (List.pairwise_cons.1 hd).2]
/-- What is due earlier is the beginning of what is due later. -/
theorem inO_due {l : List Rw} (h : InO l) (now : Int) : duR now l = l.take (duR now l).length := by
  induction l with
  | nil => rfl
  | cons x l ih =>
    have h' := List.pairwise_cons.1 h
    unfold duR at *
    by_cases hx : x.till ≤ now
    · rw [List.filter_cons_of_pos (by simpa using hx)]
      rw [List.length_cons, List.take_succ_cons]
      congr 1
      exact ih h'.2
    · have : (x :: l).filter (fun r => decide (r.till ≤ now)) = [] := by
        rw [List.filter_eq_nil_iff]
        intro e he
        rcases List.mem_cons.1 he with rfl | he
        · simpa using hx
        · have := h'.1 e he
          rw [ltR_false] at this
          simp
          omega
      rw [this]
      rfl
theorem InO.due {l : List Rw} (h : InO l) (now : Int) : InO (duR now l) := List.Pairwise.filter _ h
/-- Sorting what is due is what is due of the sorted rows. -/
theorem isort_due {l : List Rw} (hd : l.Pairwise (fun x y => x.turn ≠ y.turn)) (now : Int) : isort (duR now l) = duR now (isort l) := by
  refine inO_unique ?_ (isort_inO _) ((isort_inO l).due now) ?_
  · exact (isort_perm _).trans ((isort_perm l).filter _).symm
  · refine ((isort_perm (duR now l)).pairwise_iff (fun {x y} h e => h e.symm)).2 ?_
    exact List.Pairwise.filter _ hd
end Go.Proofs.Ytahphjindjlcpaa

/- How the library's sort lies in this program: function by function, type by type. (The numbers are of the seat Ytahphjindjlcpaa: for another seat this text is printed anew by the kit's lay-plain: see NOTES.) -/
namespace Go.Proofs.Ytahphjindjlcpaa
open Go.Shelf
set_option maxRecDepth 100000
def sortL_ren : Go.Shelf.Ren := ⟨fun | 6 => 40 | 15 => 53 | 14 => 52 | 28 => 65 | 29 => 66 | 20 => 57 | 21 => 58 | 22 => 59 | 23 => 60 | 24 => 61 | 25 => 62 | 26 => 63 | 27 => 64 | 46 => 68 | 47 => 69 | 48 => 70 | 49 => 71 | 50 => 72 | 57 => 73 | n => n, fun | 22 => 57 | 24 => 65 | 25 => 83 | 3 => 3 | 39 => 97 | 0 => 0 | 53 => 23 | 55 => 111 | 4 => 4 | 46 => 103 | 45 => 102 | 50 => 107 | 5 => 5 | 9 => 9 | 66 => 113 | 70 => 117 | 76 => 119 | 77 => 120 | n => n, fun | n => n⟩
theorem sortL : Go.Proofs.SlLaysF0.n6 Try.prog sortL_ren := {
  mixed := by kernel_rfl
  f6 := ⟨Try.f40.name, by decide, Try.func40.trans (congrArg some (by kernel_rfl))⟩
  f14 := ⟨Try.f52.name, by decide, Try.func52.trans (congrArg some (by kernel_rfl))⟩
  f15 := Try.func53.trans (congrArg some (by kernel_rfl))
  f20 := ⟨Try.f57.name, by decide, Try.func57.trans (congrArg some (by kernel_rfl))⟩
  f21 := ⟨Try.f58.name, by decide, Try.func58.trans (congrArg some (by kernel_rfl))⟩
  f22 := ⟨Try.f59.name, by decide, Try.func59.trans (congrArg some (by kernel_rfl))⟩
  f23 := ⟨Try.f60.name, by decide, Try.func60.trans (congrArg some (by kernel_rfl))⟩
  f24 := ⟨Try.f61.name, by decide, Try.func61.trans (congrArg some (by kernel_rfl))⟩
  f25 := ⟨Try.f62.name, by decide, Try.func62.trans (congrArg some (by kernel_rfl))⟩
  f26 := ⟨Try.f63.name, by decide, Try.func63.trans (congrArg some (by kernel_rfl))⟩
  f27 := ⟨Try.f64.name, by decide, Try.func64.trans (congrArg some (by kernel_rfl))⟩
  f28 := Try.func65.trans (congrArg some (by kernel_rfl))
  f29 := Try.func66.trans (congrArg some (by kernel_rfl))
  f46 := ⟨Try.f68.name, by decide, Try.func68.trans (congrArg some (by kernel_rfl))⟩
  f47 := Try.func69.trans (congrArg some (by kernel_rfl))
  f48 := Try.func70.trans (congrArg some (by kernel_rfl))
  f49 := ⟨Try.f71.name, by decide, Try.func71.trans (congrArg some (by kernel_rfl))⟩
  f50 := ⟨Try.f72.name, by decide, Try.func72.trans (congrArg some (by kernel_rfl))⟩
  f57 := ⟨Try.f73.name, by decide, Try.func73.trans (congrArg some (by kernel_rfl))⟩
  t0 := Try.underlying0
  a0 := Try.isAgg0
  z0 := Try.sizeOf0
  v0 := Try.zeroValue0
  t3 := Try.underlying3
  a3 := Try.isAgg3
  z3 := Try.sizeOf3
  v3 := Try.zeroValue3
  t4 := Try.underlying4
  a4 := Try.isAgg4
  z4 := Try.sizeOf4
  v4 := Try.zeroValue4
  t5 := Try.underlying5
  a5 := Try.isAgg5
  z5 := Try.sizeOf5
  v5 := Try.zeroValue5
  t9 := Try.underlying9
  a9 := Try.isAgg9
  z9 := Try.sizeOf9
  v9 := Try.zeroValue9
  t22 := Try.underlying57
  a22 := Try.isAgg57
  z22 := Try.sizeOf57
  v22 := Try.zeroValue57
  t25 := Try.underlying83
  a25 := Try.isAgg83
  z25 := Try.sizeOf83
  v25 := Try.zeroValue83
  t39 := Try.underlying97
  a39 := Try.isAgg97
  z39 := Try.sizeOf97
  v39 := Try.zeroValue97
  t45 := Try.underlying102
  a45 := Try.isAgg102
  z45 := Try.sizeOf102
  v45 := Try.zeroValue102
  t46 := Try.underlying103
  a46 := Try.isAgg103
  z46 := Try.sizeOf103
  v46 := Try.zeroValue103
  t50 := Try.underlying107
  a50 := Try.isAgg107
  z50 := Try.sizeOf107
  v50 := Try.zeroValue107
  t53 := Try.underlying23
  a53 := Try.isAgg23
  z53 := Try.sizeOf23
  v53 := Try.zeroValue23
  t55 := Try.underlying111
  a55 := Try.isAgg111
  z55 := Try.sizeOf111
  v55 := Try.zeroValue111
  t66 := Try.underlying113
  a66 := Try.isAgg113
  z66 := Try.sizeOf113
  v66 := Try.zeroValue113
  t70 := Try.underlying117
  a70 := Try.isAgg117
  z70 := Try.sizeOf117
  v70 := Try.zeroValue117
  t76 := Try.underlying119
  a76 := Try.isAgg119
  z76 := Try.sizeOf119
  v76 := Try.zeroValue119
  t77 := Try.underlying120
  a77 := Try.isAgg120
  z77 := Try.sizeOf120
  v77 := Try.zeroValue120 }
end Go.Proofs.Ytahphjindjlcpaa
