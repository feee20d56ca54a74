/- Several texts in one. -/
import Derived.Test.YtdjncjijgiemgaaDoorPJ
import Derived.Test.YtdjncjijgiemgaaDoorRx
import Derived.Test.YtdjncjijgiemgaaDoorPK
import Derived.Deep.MidRow
import Derived.Laws.Tables
import Derived.Test.YtdjncjijgiemgaaDoorPR
/- Package pool: hasPair; the pairs of a set, one after the other. -/
namespace Go.Proofs.YtdjncjijgiemgaaDoor
open Go.RowKit Go.Shelf
set_option maxRecDepth 100000
attribute [local go_sem] Oper.semAt_some
set_option linter.unusedVariables false
set_option linter.unusedSimpArgs false

/-- Is an even number there with the next? -/
def prs (ws : Nat → Nat) (n : Nat) : Bool := decide (n % 2 = 0) && (fr ws n && fr ws (n + 1))

set_option maxHeartbeats 2000000 in
theorem hasPair_any (base b : Nat) (low high : Int) (ws : Nat → Nat) (n : Nat) (w : World) (hT : PB base w b low high ws) (hn : n < 65536) :
    Calls Tryd.prog 29 #[.pointer (some ⟨b, 2, none⟩), .int .u16 (n : Int)] w fun e w' => e = .returned (.bool (prs ws n)) ∧ Later w w' := by
  by_cases h2 : n % 2 = 0
  · have hn1 : n + 1 < 65536 := by omega
    have h2' : (n : Int) % 2 = 0 := by omega
    have hn1' : (n : Int) + 1 < 65536 := by omega
    have HH := hide (has_any base b low high ws n w hT hn)
    cases hf : fr ws n with
    | false =>
      have HV : Hid (prs ws n = false) := by show _ = _; unfold prs; simp [hf]
      rw [hf] at HH
      clear hf h2
      go_enter Tryd.func29, Tryd.ntmps29
      go_wp2_with fail
      refine HH.out.mono ?_
      rintro e w1 ⟨rfl, l1⟩
      go_wp2_with fail
      go_ret
      exact ⟨by rw [HV.out]; rfl, l1⟩
    | true =>
      have HV : Hid (prs ws n = fr ws (n + 1)) := by show _ = _; unfold prs; simp [hf, h2]
      rw [hf] at HH
      have HH2 := hide (fun W (h : Later w W) => has_any base b low high ws (n + 1) W (hT.later h) hn1)
      rw [show ((n + 1 : Nat) : Int) = (n : Int) + 1 from by omega] at HH2
      generalize fr ws (n + 1) = q at *
      clear hf h2
      go_enter Tryd.func29, Tryd.ntmps29
      go_wp2_with fail
      refine HH.out.mono ?_
      rintro e w1 ⟨rfl, l1⟩
      go_wp2_with fail
      refine (HH2.out w1 l1).mono ?_
      rintro e w2 ⟨rfl, l2⟩
      have L2 := l1.trans l2
      go_wp2_with fail
      go_ret
      exact ⟨by rw [HV.out]; rfl, L2⟩
  · have h2' : ¬ (n : Int) % 2 = 0 := by omega
    have HV : Hid (prs ws n = false) := by show _ = _; unfold prs; simp [h2]
    clear h2
    go_enter Tryd.func29, Tryd.ntmps29
    go_wp2_with fail
    go_ret
    exact ⟨by rw [HV.out]; rfl, Later.refl _⟩

/-- What lies below stays, and so do the boxes of sets and of functions. -/
def KY (n₀ : Nat) (A C : World) : Prop := Below n₀ A C ∧ ∀ (k : Nat) (cur : Array Value) (t : TypeId) (f : Nat × Nat), A.heap[k]? = some (.cells cur t f) → t = 62 ∨ t = 42 → C.heap[k]? = some (.cells cur t f)
theorem KY.refl (n₀ : Nat) (A : World) : KY n₀ A A := ⟨Below.refl _ _, fun k cur t f h _ => h⟩
theorem KY.trans {n₀ : Nat} {A C D : World} (h : KY n₀ A C) (k : KY n₀ C D) : KY n₀ A D := ⟨h.1.trans k.1, fun i cur t f hi ht => k.2 i cur t f (h.2 i cur t f hi ht) ht⟩
theorem KY.of {n₀ : Nat} {A C : World} (l : Later A C) (h : n₀ ≤ A.heap.size) : KY n₀ A C := ⟨Below.mono l h, fun k cur t f hk _ => later_keep l hk⟩
theorem KY.put {n₀ m : Nat} (hn : n₀ ≤ m) {W : World} {l : Nat} {o o' : Obj} (hl : m ≤ l) (ho : W.heap[l]? = some o) (hc : o.isCells = false) : KY n₀ W (W.putObj l o') := by
  have hg := grownBy_putObj' W l o'
  refine ⟨⟨hg.os, hg.tape, hg.output, hg.size, fun i hi => hg.block i (by have := (Array.getElem?_eq_some_iff.1 ho).1; omega) (fun e => by cases e; omega)⟩, fun k cur t f hk _ => ?_⟩
  exact (CT.put (o' := o') ho hc).2 _ _ hk rfl

/-- The numbers of a set, where boxes stay by their type. -/
theorem alln_genY (n : Nat) (hn : 2 ≤ n) (B b n₀ base : Nat) (low high : Int) (ws : Nat → Nat) (w : World) (hB : w.heap[B]? = some (.cells #[.pointer (some ⟨b, 2, none⟩)] 62 (0, 0))) (hn0 : n₀ ≤ w.heap.size) (hT : PB base w b low high ws) (hb : b < n₀) (hz : Dz w) (hz0 : 0 < n₀) :
    GenX Fence.wide n Tryd.prog 37 #[.pointer (some ⟨B, 0, none⟩)] encN (KY n₀) (XN ws) (fun xs => xs = els ws) (fun _ => True) w := fun l J Jx W hW hJ hY h0 => by
  have hBW := later_keep hW hB
  refine (alln_in n hn l B b n₀ base low high ws (fun s V => J s V ∧ V.heap[B]? = some (.cells #[.pointer (some ⟨b, 2, none⟩)] 62 (0, 0))) Jx (fun s A C h l => ⟨hJ s A C h.1 l, later_keep l h.2⟩) (fun pre x V hV hX => (hY pre x V hV.1 hX).mono fun e V' h => ?_) W hBW (Nat.le_trans hn0 (Below.size hW)) (hT.later hW) hb (hz.later hW) hz0 ⟨h0, hBW⟩).mono ?_
  · rcases h with ⟨h1, h2, h3⟩ | h
    · have hB' := h3.2 B _ _ _ hV.2 (.inl rfl)
      exact .inl ⟨h1, ⟨h2, hB'⟩, h3.1, fun o ho => by rw [hV.2] at ho; rw [hB']; exact ho⟩
    · exact .inr h
  · rintro e W' ⟨he, ⟨xs, hx, hJx, _⟩ | h⟩
    · exact ⟨he, .inl ⟨xs, hx, hJx⟩⟩
    · exact ⟨he, .inr h⟩

def prl (ws : Nat → Nat) (l : List Nat) : List Nat := l.filter (prs ws)
def XP (ws : Nat → Nat) (pre : List Nat) (x : Nat) (_V : World) : Prop := ∃ rest, pre ++ x :: rest = prl ws (els ws)

end Go.Proofs.YtdjncjijgiemgaaDoor

/- A range over a function that ranges over another one itself. -/
namespace Go.Proofs.YtdjncjijgiemgaaDoor
open Go.RowKit Go.Shelf
set_option maxRecDepth 100000
set_option linter.unusedVariables false
set_option linter.unusedSimpArgs false

/-- A generator, as GenX; what it is told stays whatever becomes of loops of its own, and a round leaves these. -/
def GenO {α : Type} (F : Fence) (n : Nat) (P : Program) (g : Nat) (lb : Array Value) (encs : α → Array Value) (Kp : World → World → Prop) (X : List α → α → World → Prop) (S Sp : List α → Prop) (w : World) : Prop :=
  ∀ (l : Nat) (J Jx : List α → World → Prop) (W : World), Below w.heap.size w W → (∀ s A B, J s A → Later A B → J s B) → OwnFrom W.heap.size J → OwnFrom W.heap.size Jx →
    (∀ pre x V, J pre V → X pre x V → YieldAt F (n - 1) P l (encs x) V fun e V' => (e = .returned (.bool true) ∧ J (pre ++ [x]) V' ∧ Kp V V' ∧ KeepsFrom W.heap.size V V') ∨ (e = .returned (.bool false) ∧ Jx (pre ++ [x]) V' ∧ KeepsFrom W.heap.size V V')) →
    J [] W → CallsIn F n P g (#[.func (.yield l) #[] #[]] ++ lb) W fun e W' => (∃ v, e = .returned v) ∧ ((∃ xs, S xs ∧ J xs W') ∨ ∃ pre, Sp pre ∧ Jx pre W')

theorem wpIn_rangeO {F : Fence} {n : Nat} {P : Program} {α : Type} {g : Operand} {ps : Array Tmp} {assign body : Code} {Q : Exit → Act → World → Prop} {a : Act} {w : World}
    (hro : F.round = none) (h1 : 1 ≤ n) {gf : Nat} {lb : Array Value} (hg : a.eval g = .func (.func gf) #[] lb) (hFg : F.fn gf) (eg : ∀ args w, (callFunc gf args).run P w = .ok (.enter gf args) w)
    {encs : α → Array Value} {Kp : World → World → Prop} {X : List α → α → World → Prop} {S Sp : List α → Prop} (hseq : GenO F (n - 1) P gf lb encs Kp X S Sp w)
    (hKt : ∀ {A B C : World}, Kp A B → Kp B C → Kp A C) (hKb : ∀ (W : World) (l : Nat) (o o' : Obj), w.heap.size ≤ l → W.heap[l]? = some o → o.isCells = false → o.isWalk = false → Kp W (W.putObj l o'))
    (hKl : ∀ {A B : World}, w.heap.size ≤ A.heap.size → Later A B → Kp A B) (hXl : ∀ pre x A B, X pre x A → Later A B → X pre x B)
    (hXb : ∀ pre x (W : World) (l : Nat) (o o' : Obj), w.heap.size ≤ l → W.heap[l]? = some o → o.isCells = false → X pre x W → X pre x (W.putObj l o')) (hps : ∀ x, (encs x).size = ps.size)
    (I Ix : List α → World → Prop) (hI : OwnFrom w.heap.size I) (hIl : ∀ s A B, I s A → Later A B → I s B) (hIx : OwnFrom w.heap.size Ix) (h0 : I [] w)
    (A : α → Act → World → Prop) (hA : ∀ x a' (W : World) (l : Nat) (o o' : Obj), w.heap.size ≤ l → W.heap[l]? = some o → o.isCells = false → A x a' W → A x a' (W.putObj l o'))
    (hassign : ∀ (l : Nat) (pre : List α) (x : α) (W : World) (K : Act → World → Prop), w.heap.size ≤ W.heap.size → I pre W → X pre x W → (∀ a' W', Later W W' → A x a' W' → K a' W') →
      assign.wpIn (F.inRound l) (n - 1 - 1) P (Exit.then K (fun _ _ _ => False)) { tmps := (ps.zip (encs x)).foldl (fun t (p, v) => t.setIfInBounds p v) a.tmps, defers := [] } W)
    (hbody : ∀ (l : Nat) (pre : List α) (x : α) (a' : Act) (W : World), I pre W → X pre x W → A x a' W → body.wpIn (F.inRound l) (n - 1 - 1) P (postX w.heap.size Kp I Ix (pre ++ [x]) W) a' W)
    (hdone : ∀ (D : Nat) (xs : List α) (W : World), w.heap.size ≤ D → S xs → I xs W → W.heap[D]? = some (.deferred (some [])) → Q .normal { a with defers := { target := .collected D, args := #[] } :: a.defers } W)
    (hstop : ∀ (D : Nat) (pre : List α) (W : World), w.heap.size ≤ D → Sp pre → Ix pre W → W.heap[D]? = some (.deferred (some [])) → Code.ret.wpIn F n P Q { a with defers := { target := .collected D, args := #[] } :: a.defers } W) :
    (Code.rangeFunc g ps assign body).wpIn F n P Q a w := by
  refine wpIn_rangeFunc fun fn hfn => ?_
  rw [hro]
  obtain ⟨rec, hrec⟩ : ∃ rec : LoopState → Option Code → Loop, rec = fun st pe => { state := st, pending := pe, fn, tmps := a.tmps, params := ps, assign, body, defers := w.heap.size } := ⟨_, rfl⟩
  obtain ⟨V, hV⟩ : ∃ V, (w.alloc (.deferred (some []))).alloc (.loop (rec .ready none)) = V := ⟨_, rfl⟩
  have hl : V.heap[w.heap.size + 1]? = some (.loop (rec .ready none)) := by
    have := World.alloc_heap_new (w.alloc (.deferred (some []))) (.loop (rec .ready none))
    rw [World.size_alloc] at this
    rw [← hV]
    exact this
  have hk : V.heap[w.heap.size]? = some (.deferred (some [])) := by
    rw [← hV]
    exact (Below.heap_alloc _ _ _ (by simp)).trans (World.alloc_heap_new w _)
  have hi : I [] V := by rw [← hV]; exact hI.alloc _ (hI.alloc _ h0)
  have hb : Below w.heap.size w V := by rw [← hV]; exact ((Below.refl _ w).alloc (Nat.le_refl _) _).alloc (by simp) _
  have hVs : V.heap.size = w.heap.size + 1 + 1 := by rw [← hV]; simp
  refine ⟨w.heap.size + 1, [{ target := .collected w.heap.size, args := #[] }], V, { target := .fn (.func gf) lb, args := #[.func (.yield (w.heap.size + 1)) #[] #[]] }, V, gf, #[.func (.yield (w.heap.size + 1)) #[] #[]] ++ lb, V, ?_, ?_, ?_, ?_, fun _ => h1, ?_⟩
  · rw [← hV, hrec]; exact run_enterLoop_outer _ _ _ _ _
  · simp only [resolve, hg]
    simp [go_sem]
  · intro f' hf'; simp [Target.leads] at hf'; subst hf'; exact hFg
  · simp [invoke, go_sem, eg]
  refine (hseq (w.heap.size + 1) (fun pre W => I pre W ∧ W.heap[w.heap.size + 1]? = some (.loop (rec .ready none)) ∧ W.heap[w.heap.size]? = some (.deferred (some [])))
    (fun pre W => Ix pre W ∧ W.heap[w.heap.size + 1]? = some (.loop (rec .done (some .ret))) ∧ W.heap[w.heap.size]? = some (.deferred (some []))) V hb
    (fun s A B hs h => ⟨hIl s A B hs.1 h, later_keep h hs.2.1, later_keep h hs.2.2⟩)
    (fun s A B row hs hg hr => ⟨hI s A B row hs.1 hg (fun r e => ⟨by have := (hr r e).1; omega, (hr r e).2⟩), (hg.block _ (Array.getElem?_eq_some_iff.1 hs.2.1).1 (fun e => by have := (hr _ e.symm).1; omega)).trans hs.2.1, (hg.block _ (Array.getElem?_eq_some_iff.1 hs.2.2).1 (fun e => by have := (hr _ e.symm).1; omega)).trans hs.2.2⟩)
    (fun s A B row hs hg hr => ⟨hIx s A B row hs.1 hg (fun r e => ⟨by have := (hr r e).1; omega, (hr r e).2⟩), (hg.block _ (Array.getElem?_eq_some_iff.1 hs.2.1).1 (fun e => by have := (hr _ e.symm).1; omega)).trans hs.2.1, (hg.block _ (Array.getElem?_eq_some_iff.1 hs.2.2).1 (fun e => by have := (hr _ e.symm).1; omega)).trans hs.2.2⟩)
    ?_ ⟨hi, hl, hk⟩).mono ?_
  · rintro pre x W ⟨ji, jl, jk⟩ hx
    have hlt : w.heap.size + 1 < W.heap.size := (Array.getElem?_eq_some_iff.1 jl).1
    have hy := run_yield (P := P) (args := encs x) jl (by rw [hrec]; exact hps x)
    rw [hrec] at hy
    refine ⟨fn, _, assign, body, hy, roundIn_of_wpIn hfn (hassign _ pre x W _ (by omega) ji hx fun a' W' hL hAx => ?_)⟩
    have pL : Kp W W' := hKl (by omega) hL
    have kf1 : KeepsFrom V.heap.size W W' := ⟨Below.size hL, fun i o hi ho hc => later_keep hL ho⟩
    replace ji := hIl _ _ _ ji hL
    replace jl := later_keep hL jl
    replace jk := later_keep hL jk
    replace hx := hXl _ _ _ _ hx hL
    replace hlt : w.heap.size + 1 < W'.heap.size := (Array.getElem?_eq_some_iff.1 jl).1
    refine ⟨_, run_beginRound jl (by rw [hrec]), ?_⟩
    obtain ⟨U, hU⟩ : ∃ U, W'.putObj (w.heap.size + 1) (.loop { rec .ready none with state := .busy }) = U := ⟨_, rfl⟩
    have l2 : U.heap[w.heap.size + 1]? = some (.loop { rec .ready none with state := .busy }) := by rw [← hU]; exact World.putObj_heap_same hlt
    have k2 : U.heap[w.heap.size]? = some (.deferred (some [])) := by rw [← hU]; exact (World.putObj_heap_other (by omega)).trans jk
    have kf2 : KeepsFrom V.heap.size W U := ⟨Nat.le_trans kf1.size (by rw [← hU]; exact (grownBy_putObj' W' _ _).size), fun i o hi ho hc => by rw [← hU]; exact (World.putObj_heap_other (by omega)).trans (kf1.same i o hi ho hc)⟩
    have p2 : Kp W U := by rw [← hU]; exact hKt pL (hKb _ _ _ _ (by omega) jl rfl rfl)
    have a2 : A x a' U := by rw [← hU]; exact hA _ _ _ _ _ _ (by omega) jl rfl hAx
    have i2 : I pre U := by rw [← hU]; exact hI.putObj _ ji (by omega) jl rfl
    have x2 : X pre x U := by rw [← hU]; exact hXb _ _ _ _ _ _ (by omega) jl rfl hx
    rw [hU]
    refine wpIn_mono (hbody _ pre x a' U i2 x2 a2) ?_
    have fin : ∀ (jump : Option Code) (Z : World), KeepsFrom w.heap.size U Z →
        (Instr.endRound (w.heap.size + 1) jump).run P Z = .ok (.bool jump.isNone) (Z.putObj (w.heap.size + 1) (.loop (rec (if jump.isNone then .ready else .done) jump))) ∧ Z.heap[w.heap.size + 1]? = some (.loop { rec .ready none with state := .busy }) ∧
        (Z.putObj (w.heap.size + 1) (.loop (rec (if jump.isNone then .ready else .done) jump))).heap[w.heap.size + 1]? = some (.loop (rec (if jump.isNone then .ready else .done) jump)) ∧
        (Z.putObj (w.heap.size + 1) (.loop (rec (if jump.isNone then .ready else .done) jump))).heap[w.heap.size]? = some (.deferred (some [])) := fun jump Z hZ => by
      have l3 := hZ.same _ _ (by omega) l2 rfl
      have r3 := run_endRound (P := P) jump l3
      rw [hrec] at r3 ⊢
      exact ⟨r3, by rw [hrec] at l3; exact l3, World.putObj_heap_same (Array.getElem?_eq_some_iff.1 l3).1, (World.putObj_heap_other (by omega)).trans (hZ.same _ _ (Nat.le_refl _) k2 rfl)⟩
    have kfin : ∀ (o' : Obj) (Z : World), KeepsFrom w.heap.size U Z → KeepsFrom V.heap.size W (Z.putObj (w.heap.size + 1) o') := fun o' Z hZ => ⟨Nat.le_trans kf2.size (Nat.le_trans hZ.size (grownBy_putObj' Z _ _).size), fun i o hi ho hc => (World.putObj_heap_other (by omega)).trans (hZ.same i o (by omega) (kf2.same i o hi ho hc) hc)⟩
    rintro e a3 Z hp
    cases e with
    | normal =>
      obtain ⟨hZ, hp3, hi3⟩ := hp
      obtain ⟨hr, l3, l4, k4⟩ := fin none Z hZ
      exact ⟨_, _, hr, .inl ⟨rfl, ⟨hI.putObj _ hi3 (by omega) l3 rfl, l4, k4⟩, hKt (hKt p2 hp3) (hKb _ _ _ _ (by omega) l3 rfl rfl), kfin _ Z hZ⟩⟩
    | ret =>
      obtain ⟨hZ, hi3⟩ := hp
      obtain ⟨hr, l3, l4, k4⟩ := fin (some .ret) Z hZ
      exact ⟨_, _, hr, .inr ⟨rfl, ⟨hIx.putObj _ hi3 (by omega) l3 rfl, l4, k4⟩, kfin _ Z hZ⟩⟩
    | exit id => exact hp.elim
    | goto t => exact hp.elim
    | panic ch => exact hp.elim
    | outgrown => exact hp.elim
  · rintro e W2 ⟨⟨v, rfl⟩, (⟨xs, hS, ji, jl, jk⟩ | ⟨pre, hSp, ji, jl, jk⟩)⟩
    · exact ⟨none, _, by have := run_endLoop (P := P) jl (by rw [hrec]; simp); rw [hrec] at this; exact this, hdone _ xs _ (Nat.le_refl _) hS (hI.putObj _ ji (by omega) jl rfl) ((World.putObj_heap_other (by omega)).trans jk)⟩
    · exact ⟨some .ret, _, by have := run_endLoop (P := P) jl (by rw [hrec]; simp); rw [hrec] at this; exact this, hstop _ pre _ (Nat.le_refl _) hSp (hIx.putObj _ ji (by omega) jl rfl) ((World.putObj_heap_other (by omega)).trans jk)⟩
end Go.Proofs.YtdjncjijgiemgaaDoor

/- Package pool: the pairs of a set, one after the other. -/
namespace Go.Proofs.YtdjncjijgiemgaaDoor
open Go.RowKit Go.Shelf
set_option maxRecDepth 100000
attribute [local go_sem] Oper.semAt_some
set_option linter.unusedVariables false
set_option linter.unusedSimpArgs false

theorem KY.row {n₀ m : Nat} {A C : World} {row : Option Nat} (hn : n₀ ≤ m) (hsz : n₀ ≤ A.heap.size) (hg : A.grownBy C row) (hr : ∀ r, row = some r → m ≤ r ∧ ∃ o : Obj, A.heap[r]? = some o ∧ o.isCells = false) : KY n₀ A C :=
  ⟨⟨hg.os, hg.tape, hg.output, hg.size, fun i hi => hg.block i (by omega) (fun e => by have := (hr i e.symm).1; omega)⟩, fun k cur t f hk _ => (CT.row hg (fun r e => (hr r e).2)).2 _ _ hk rfl⟩

theorem round_any {m m' l l' : Nat} {P : Program} {f : FuncId} {tmps : Array Value} {assign body : Code} {w : World} {R : Ending → World → Prop}
    (h : RoundIn Fence.wide m P l f tmps assign body w R) : RoundIn (Fence.wide.inRound l') m' P l f tmps assign body w R := ⟨h.1, fun c cs _ => h.2 c cs (fun d h => by cases h)⟩

theorem prl_snoc_yes {ws : Nat → Nat} {pre : List Nat} {x : Nat} (h : prs ws x = true) : prl ws (pre ++ [x]) = prl ws pre ++ [x] := by unfold prl; simp [h]
theorem prl_snoc_no {ws : Nat → Nat} {pre : List Nat} {x : Nat} (h : prs ws x = false) : prl ws (pre ++ [x]) = prl ws pre := by unfold prl; simp [h]
set_option maxRecDepth 100000 in
set_option maxHeartbeats 2000000 in
theorem pairs_in (l B b n₀ base : Nat) (low high : Int) (ws : Nat → Nat) (J Jx : List Nat → World → Prop) (W : World)
    (hJ : ∀ s A B, J s A → Later A B → J s B) (hJo : OwnFrom W.heap.size J) (hJx : OwnFrom W.heap.size Jx)
    (hY : ∀ pre x V, J pre V → XP ws pre x V → YieldAt Fence.wide 3 Tryd.prog l (encN x) V fun e V' => (e = .returned (.bool true) ∧ J (pre ++ [x]) V' ∧ KY n₀ V V' ∧ KeepsFrom W.heap.size V V') ∨ (e = .returned (.bool false) ∧ Jx (pre ++ [x]) V' ∧ KeepsFrom W.heap.size V V'))
    (hB : W.heap[B]? = some (.cells #[.pointer (some ⟨b, 2, none⟩)] 62 (0, 0))) (hn0 : n₀ ≤ W.heap.size) (hT : PB base W b low high ws) (hb : b < n₀) (hz : Dz W) (hz0 : 0 < n₀) (h0 : J [] W) :
    CallsIn Fence.wide 4 Tryd.prog 39 #[.func (.yield l) #[] #[], .pointer (some ⟨B, 0, none⟩)] W fun e W' => (∃ v, e = .returned v) ∧ ((∃ xs, xs = prl ws (els ws) ∧ J xs W') ∨ (∃ pre, True ∧ Jx pre W')) := by
  have la1 : Later W (W.alloc (.cells #[.func (.yield l) #[] #[]] 42)) := (Below.refl _ _).alloc (Nat.le_refl _) _
  have hBc := block_cell (later_keep la1 hB)
  have hb4 : Later W ((W.alloc (.cells #[.func (.yield l) #[] #[]] 42)).alloc (.cells #[.pointer (some ⟨b, 2, none⟩)] 62)) := ((Below.refl _ _).alloc (Nat.le_refl _) _).alloc (by simp) _
  have c0 : ((W.alloc (.cells #[.func (.yield l) #[] #[]] 42)).alloc (.cells #[.pointer (some ⟨b, 2, none⟩)] 62)).heap[W.heap.size]? = some (.cells #[.func (.yield l) #[] #[]] 42) := (Below.heap_alloc _ _ _ (by simp)).trans (heap_alloc_new W _)
  have c1 : ((W.alloc (.cells #[.func (.yield l) #[] #[]] 42)).alloc (.cells #[.pointer (some ⟨b, 2, none⟩)] 62)).heap[W.heap.size + 1]? = some (.cells #[.pointer (some ⟨b, 2, none⟩)] 62) := by
    have := heap_alloc_new (W.alloc (.cells #[.func (.yield l) #[] #[]] 42)) (.cells #[.pointer (some ⟨b, 2, none⟩)] 62)
    rw [World.size_alloc] at this
    exact this
  have hs4 : ((W.alloc (.cells #[.func (.yield l) #[] #[]] 42)).alloc (.cells #[.pointer (some ⟨b, 2, none⟩)] 62)).heap.size = W.heap.size + 1 + 1 := by simp
  have C0 := hide c0
  have C1 := hide c1
  have HS4 := hide hs4
  clear c0 c1 hs4
  refine callsIn_of_wp_marks Tryd.func39 rfl trivial ?_ rfl
  simp only [Tryd.ntmps39, List.size_toArray, List.length_cons, List.length_nil, Nat.reduceAdd, Nat.reduceSub, Array.replicate_succ, Array.replicate_zero, List.push_toArray, List.append_toArray, List.nil_append, List.cons_append]
  gi_wp2_with (refine ⟨trivial, ?_⟩; gi_at_call 26; refine (callsIn_wide.2 (all8_in _ _)).mono ?_; rintro e w' ⟨rfl, rfl⟩)
  generalize ((W.alloc (.cells #[.func (.yield l) #[] #[]] 42)).alloc (.cells #[.pointer (some ⟨b, 2, none⟩)] 62)) = w4 at *
  have hs4 : w4.heap.size = W.heap.size + 1 + 1 := HS4.out
  have hT4 := hT.later hb4
  have hz4 := hz.later hb4
  clear hBc la1
  refine wpIn_rangeX (w := w4) rfl (by omega) (gf := 37) (lb := #[.pointer (some ⟨W.heap.size + 1, 0, none⟩)]) rfl trivial (enters_of Tryd.func37 (by kernel_rfl) rfl)
    (alln_genY 3 (by omega) (W.heap.size + 1) b n₀ base low high ws w4 C1.out (by omega) hT4 hb hz4 hz0)
    (fun h k => h.trans k) (fun V l o o' hl ho hc hw => KY.put (m := w4.heap.size) (by omega) hl ho hc) (fun hA hL => KY.of hL (by omega)) (fun _ _ _ _ h _ => h) (fun _ _ _ _ _ _ _ _ _ h => h) (fun _ => rfl)
    (fun pre V => J (prl ws pre) V ∧ KY n₀ W V ∧ V.heap[W.heap.size]? = some (.cells #[.func (.yield l) #[] #[]] 42 (0, 0)) ∧ V.heap[B]? = some (.cells #[.pointer (some ⟨b, 2, none⟩)] 62 (0, 0))) (fun pre V => ∃ p, Jx p V)
    ?own1 (fun s A C h l => ⟨hJ _ _ _ h.1 l, h.2.1.trans (KY.of l (by have := h.2.1.1.size; omega)), later_keep l h.2.2.1, later_keep l h.2.2.2⟩) ?own2 ⟨hJ _ _ _ h0 hb4, KY.of hb4 hn0, C0.out, later_keep hb4 hB⟩
    (fun x a' V => a' = { tmps := #[.func (.yield l) #[] #[], .pointer (some ⟨B, 0, none⟩), .pointer (some ⟨W.heap.size, 0, none⟩), .int .u16 (x : Int), .pointer (some ⟨b, 2, none⟩), .func (.func 37) #[] #[.pointer (some ⟨W.heap.size + 1, 0, none⟩)], .int .u16 (x : Int), undef, undef, undef, undef, undef, undef, undef, undef, undef], defers := [] })
    (fun x a' W l o o' hl ho hc h => h) ?assign ?body ?done ?stop
  case own1 =>
    rintro s A C row ⟨h1, h2, h3, h4⟩ hg hr
    have hsz := h2.1.size
    have hk := KY.row (n₀ := n₀) (m := w4.heap.size) (by omega) (by omega) hg hr
    exact ⟨hJo _ _ _ row h1 hg (fun r e => ⟨by have := (hr r e).1; omega, (hr r e).2⟩), h2.trans hk, hk.2 _ _ _ _ h3 (.inr rfl), hk.2 _ _ _ _ h4 (.inl rfl)⟩
  case own2 =>
    rintro s A C row ⟨p, h1⟩ hg hr
    exact ⟨p, hJx _ _ _ row h1 hg (fun r e => ⟨by have := (hr r e).1; omega, (hr r e).2⟩)⟩
  case assign =>
    rintro l pre x W K hsz _ hX hK
    dsimp only [encN]
    gi_wp2
    exact hK _ _ (Later.refl _) rfl
  case body =>
    rintro l2 pre x a' V ⟨h1, h2, h3, h4⟩ hX rfl
    have hTV : PB base V b low high ws := ⟨hT.1, hT.2.1, (h2.1.block b hb).trans hT.2.2⟩
    obtain ⟨rest, hR⟩ := hX
    have hxm : x < 65536 := els_lt (ws := ws) (by rw [← hR]; simp)
    have HP := hide (((callsIn_wide (n := 1)).2 (hasPair_any base b low high ws x V hTV hxm)).inRound l2)
    have K3 := block_cell h3
    have K4 := block_cell h4
    have hvs := h2.1.size
    have kl : ∀ V', Later V V' → KeepsFrom w4.heap.size V V' := fun V' hL => ⟨Below.size hL, fun i o hi ho hc => later_keep hL ho⟩
    cases hp : prs ws x with
    | false =>
      rw [hp] at HP
      gi_wp2
      refine ⟨trivial, HP.out.mono ?_⟩
      rintro e V1 ⟨rfl, l1⟩
      gi_wp2
      refine ⟨fun f h => (by cases h), ?_⟩
      gi_wp2
      exact ⟨kl _ l1, KY.of l1 (by omega), by rw [prl_snoc_no hp]; exact hJ _ _ _ h1 l1, h2.trans (KY.of l1 (by omega)), later_keep l1 h3, later_keep l1 h4⟩
    | true =>
      rw [hp] at HP
      have hXP : XP ws (prl ws pre) x V := ⟨prl ws rest, by rw [← hR]; unfold prl; simp [hp]⟩
      gi_wp2
      refine ⟨trivial, HP.out.mono ?_⟩
      rintro e V1 ⟨rfl, l1⟩
      have K3 := block_cell (later_keep l1 h3)
      obtain ⟨fn, tmps, assign, body, hy, hRd⟩ := hY _ _ V1 (hJ _ _ _ h1 l1) hXP
      dsimp only [encN] at hy
      have HR := hide (round_any (m' := 1) (l' := l2) hRd)
      clear hRd
      gi_wp2
      refine HR.out.mono ?_
      rintro e V2 (⟨rfl, j2, k2, f2⟩ | ⟨rfl, j2, f2⟩)
      · gi_wp2
        have kk : KY n₀ V V2 := (KY.of l1 (by omega)).trans k2
        exact ⟨⟨Nat.le_trans (Below.size l1) f2.size, fun i o hi ho hc => f2.same i o (by omega) (later_keep l1 ho) hc⟩, kk, by rw [prl_snoc_yes hp]; exact j2, h2.trans kk, kk.2 _ _ _ _ h3 (.inr rfl), kk.2 _ _ _ _ h4 (.inl rfl)⟩
      · gi_wp2
        exact ⟨⟨Nat.le_trans (Below.size l1) f2.size, fun i o hi ho hc => f2.same i o (by omega) (later_keep l1 ho) hc⟩, _, j2⟩
  case done =>
    rintro D xs V hD rfl ⟨h1, h2, h3, h4⟩ hK
    gi_wp2
    refine ⟨by simp, .inl ⟨_, _, rfl, run_takeDeferred hK, ?_⟩⟩
    exact ⟨.tuple #[], results_none rfl _ _ _, ⟨_, rfl⟩, .inl ⟨_, rfl, hJo.putObj _ h1 (by omega) hK rfl⟩⟩
  case stop =>
    rintro D pre V hD hSp ⟨p, h1⟩ hK
    gi_wp2
    refine ⟨by simp, .inl ⟨_, _, rfl, run_takeDeferred hK, ?_⟩⟩
    exact ⟨.tuple #[], results_none rfl _ _ _, ⟨_, rfl⟩, .inr ⟨p, trivial, hJx.putObj _ h1 (by omega) hK rfl⟩⟩

theorem pairs_gen (B b n₀ base : Nat) (low high : Int) (ws : Nat → Nat) (w : World) (hB : w.heap[B]? = some (.cells #[.pointer (some ⟨b, 2, none⟩)] 62 (0, 0))) (hn0 : n₀ ≤ w.heap.size) (hT : PB base w b low high ws) (hb : b < n₀) (hz : Dz w) (hz0 : 0 < n₀) :
    GenO Fence.wide 4 Tryd.prog 39 #[.pointer (some ⟨B, 0, none⟩)] encN (KY n₀) (XL (prl ws (els ws))) (fun xs => xs = prl ws (els ws)) (fun _ => True) w := fun l J Jx W hW hJ hJo hJx hY h0 =>
  pairs_in l B b n₀ base low high ws J Jx W hJ hJo hJx hY (later_keep hW hB) (Nat.le_trans hn0 (Below.size hW)) (hT.later hW) hb (hz.later hW) hz0 h0

set_option maxRecDepth 100000 in
set_option maxHeartbeats 4000000 in
theorem first8_o (wish cf gf : Nat) (pb : Value) (lb : Array Value) (q : Bool) (L : List Nat) (Kp : World → World → Prop) (w : World) (eg : ∀ args w, (callFunc cf args).run Tryd.prog w = .ok (.enter cf args) w) (egf : ∀ args w, (callFunc gf args).run Tryd.prog w = .ok (.enter gf args) w)
    (hq : ∀ W, Later w W → Calls Tryd.prog cf #[pb, .int .u16 (wish : Int)] W fun e W' => e = .returned (.bool q) ∧ Later W W')
    (hgen : ∀ w4, Later w w4 → GenO Fence.wide 4 Tryd.prog gf lb encN Kp (XL L) (fun xs => xs = L) (fun _ => True) w4)
    (hKt : ∀ {A B C : World}, Kp A B → Kp B C → Kp A C) (hKb : ∀ (w4 W : World) (l : Nat) (o o' : Obj), Later w w4 → w4.heap.size ≤ l → W.heap[l]? = some o → o.isCells = false → o.isWalk = false → Kp W (W.putObj l o'))
    (hKl : ∀ {w4 A B : World}, Later w w4 → w4.heap.size ≤ A.heap.size → Later A B → Kp A B) :
    Calls Tryd.prog 24 #[.int .u16 (wish : Int), .func (.func cf) #[pb] #[], .func (.func gf) #[] lb] w fun e w' => e = .returned (.tuple #[.int .u16 (fsn q wish L : Nat), .bool (fsb q L)]) ∧ Later w w' := by
  refine (callsIn_wide (n := 5)).1 ?_
  refine callsIn_of_wp_marks Tryd.func24 rfl trivial ?_ rfl
  simp only [Tryd.ntmps24, List.size_toArray, List.length_cons, List.length_nil, Nat.reduceAdd, Nat.reduceSub, Array.replicate_succ, Array.replicate_zero, List.push_toArray, List.append_toArray, List.nil_append, List.cons_append]
  have hb2 : Later w ((w.alloc (.cells #[.int .u16 0] 22)).alloc (.cells #[.bool false] 4)) := ((Below.refl _ _).alloc (Nat.le_refl _) _).alloc (by simp) _
  have c0 : ((w.alloc (.cells #[.int .u16 0] 22)).alloc (.cells #[.bool false] 4)).heap[w.heap.size]? = some (.cells #[.int .u16 0] 22) := (Below.heap_alloc _ _ _ (by simp)).trans (heap_alloc_new w _)
  have c1 : ((w.alloc (.cells #[.int .u16 0] 22)).alloc (.cells #[.bool false] 4)).heap[w.heap.size + 1]? = some (.cells #[.bool false] 4) := by
    have := heap_alloc_new (w.alloc (.cells #[.int .u16 0] 22)) (.cells #[.bool false] 4)
    rw [World.size_alloc] at this
    exact this
  have C0 := hide c0
  have C1 := hide c1
  have HQ := hide hq
  have HEG := hide eg
  clear c0 c1 hq eg
  gi_wp2
  refine ⟨trivial, ?_⟩
  rw [HEG.out]
  simp only [Oper.uponIn]
  generalize hw2 : (w.alloc (.cells #[.int .u16 0] 22)).alloc (.cells #[.bool false] 4) = w2 at *
  clear hw2
  refine ⟨fun _ => by omega, (callsIn_wide.2 (HQ.out w2 hb2)).mono ?_⟩
  rintro e w4 ⟨rfl, l4⟩
  have hb4 : Later w w4 := hb2.trans l4
  have d0 := later_keep l4 C0.out
  have d1 := later_keep l4 C1.out
  have hs4 : w.heap.size + 1 + 1 ≤ w4.heap.size := by have := (Array.getElem?_eq_some_iff.1 d1).1; omega
  cases q with
  | true =>
    have K0 := block_cell d0
    have K1 := block_cell d1
    have F0 := block_frozen d0
    have F1 := block_frozen d1
    gi_wp2
    obtain ⟨v0, v1, hb5⟩ := set_two d0 d1 (wish : Int) true
    generalize (w4.setCell ⟨w.heap.size, 0, none⟩ (.int .u16 (wish : Int))).setCell ⟨w.heap.size + 1, 0, none⟩ (.bool true) = V at *
    have k2 := block_cell v0
    have k3 := block_cell v1
    exact ⟨.tuple #[.int .u16 (wish : Int), .bool true], by simp [results, Tryd.results24, go_sem, k2, k3], rfl, Below.trans hb4 (hb5.below hb4.size (fun k hk e => by omega))⟩
  | false =>
    gi_wp2
    refine wpIn_rangeO (w := w4) rfl (by omega) (gf := gf) (lb := lb) rfl trivial egf (hgen w4 hb4) hKt (fun W l o o' hl ho hc hw => hKb w4 W l o o' hb4 hl ho hc hw) (fun hA hL => hKl hb4 hA hL) (fun _ _ _ _ h _ => h) (fun _ _ _ _ _ _ _ _ _ h => h) (fun _ => rfl)
      (fun pre W => PF0 w.heap.size pre W ∧ Below w.heap.size w W) (fun pre W => PF1 w.heap.size L pre W ∧ Below w.heap.size w W)
      (OwnFrom.and (fun s A B row hs hg hr => hs.ct (CT.row hg (fun r e => (hr r e).2))) (ownFrom_below (Nat.le_refl _) (by omega)))
      (fun s A B h l => ⟨h.1.ct (CT.of l), h.2.trans (l.mono h.2.size)⟩)
      (OwnFrom.and (fun s A B row hs hg hr => hs.ct (CT.row hg (fun r e => (hr r e).2))) (ownFrom_below (Nat.le_refl _) (by omega)))
      ⟨⟨rfl, d0, d1⟩, hb4⟩
      (fun x a' W => a' = { tmps := #[.int .u16 (wish : Int), .func (.func cf) #[pb] #[], .func (.func gf) #[] lb, undef, undef, undef, .pointer (some ⟨w.heap.size, 0, none⟩), .pointer (some ⟨w.heap.size + 1, 0, none⟩), .int .u16 (x : Int), .func (.func cf) #[pb] #[], .int .u16 (wish : Int), .bool false, undef, .func (.func gf) #[] lb, .int .u16 (x : Int), undef], defers := [] })
      (fun x a' W l o o' hl ho hc h => h) ?assign ?body ?done ?stop
    case assign =>
      rintro l pre x W K hsz _ hX hK
      dsimp only [encN]
      gi_wp2
      exact hK _ _ (Later.refl _) rfl
    case body =>
      rintro l pre x a' W ⟨⟨rfl, h0, h1⟩, hbW⟩ hX rfl
      obtain ⟨rest, hL⟩ := hX
      have K0 := block_cell h0
      have K1 := block_cell h1
      have F0 := block_frozen h0
      have F1 := block_frozen h1
      have hbsz := hbW.size
      gi_wp2
      obtain ⟨v0, v1, hb5⟩ := set_two h0 h1 (x : Int) true
      generalize (W.setCell ⟨w.heap.size, 0, none⟩ (.int .u16 (x : Int))).setCell ⟨w.heap.size + 1, 0, none⟩ (.bool true) = V at *
      exact ⟨⟨hb5.size, fun i o hi ho hc => (hb5.block i (Array.getElem?_eq_some_iff.1 ho).1 (by omega)).trans ho⟩, ⟨x, rest, rfl, hL.symm, v0, v1⟩, hbW.trans (hb5.below hbsz (fun k hk e => by omega))⟩
    case done =>
      rintro D xs W hD rfl ⟨⟨hx, h0, h1⟩, hbW⟩ hK
      subst hx
      have K0 := block_cell h0
      have K1 := block_cell h1
      have F0 := block_frozen h0
      have F1 := block_frozen h1
      have hbsz := hbW.size
      gi_wp2
      obtain ⟨v0, v1, hb5⟩ := set_two h0 h1 0 false
      have hD5 := (hb5.block D (Array.getElem?_eq_some_iff.1 hK).1 (by omega)).trans hK
      generalize (W.setCell ⟨w.heap.size, 0, none⟩ (.int .u16 0)).setCell ⟨w.heap.size + 1, 0, none⟩ (.bool false) = V at *
      exact first_end w.heap.size D 0 false V w (by omega) (hbW.trans (hb5.below hbsz (fun k hk e => by omega))) v0 v1 hD5 (Nat.le_refl _) _ _ _ _ _ _ _ _ _ _ _ _ _ _
    case stop =>
      rintro D pre W hD hSp ⟨⟨x, rest, rfl, hL, h0, h1⟩, hbW⟩ hK
      subst hL
      gi_wp2
      exact first_end w.heap.size D (x : Int) true W w (by omega) hbW h0 h1 hK (Nat.le_refl _) _ _ _ _ _ _ _ _ _ _ _ _ _ _
end Go.Proofs.YtdjncjijgiemgaaDoor

/- Package pool: Pair. -/
namespace Go.Proofs.YtdjncjijgiemgaaDoor
open Go.RowKit Go.Shelf
set_option maxRecDepth 100000
set_option linter.unusedVariables false
set_option linter.unusedSimpArgs false

theorem pairs8_in (b : Nat) (w : World) : Calls Tryd.prog 30 #[.pointer (some ⟨b, 2, none⟩)] w fun e w' => e = .returned (.func (.func 39) #[] #[.pointer (some ⟨w.heap.size, 0, none⟩)]) ∧ w' = w.alloc (.cells #[.pointer (some ⟨b, 2, none⟩)] 62) := by
  go_enter Tryd.func30, Tryd.ntmps30
  go_wp2_with fail
  go_ret
  exact ⟨rfl, rfl⟩

/-- How Pair leaves a pool. -/
def tkQ (base : Nat) (W' : World) (b low high : Nat) (ws : Nat → Nat) (q : Bool) (L : List Nat) (n : Nat) : Prop := (fsb q L = false ∧ PB base W' b (low : Int) (high : Int) ws) ∨ (fsb q L = true ∧ PB base W' b (low : Int) (high : Int) (wsR (wsR ws n) (n + 1)))

theorem pair_lim {ws : Nat → Nat} {wish : Nat} (hw : wish < 65536) (h : fsb (prs ws wish) (prl ws (els ws)) = true) : fsn (prs ws wish) wish (prl ws (els ws)) < 65536 ∧ fsn (prs ws wish) wish (prl ws (els ws)) % 2 = 0 := by
  unfold fsb at h
  unfold fsn
  cases hq : prs ws wish with
  | true =>
    unfold prs at hq
    simp at hq
    exact ⟨by simpa using hw, by simpa using hq.1⟩
  | false =>
    rw [hq] at h
    cases hL : prl ws (els ws) with
    | nil => rw [hL] at h; simp at h
    | cons x L =>
      have hx : x ∈ prl ws (els ws) := by rw [hL]; simp
      unfold prl at hx
      obtain ⟨h1, h2⟩ := List.mem_filter.1 hx
      unfold prs at h2
      simp at h2
      exact ⟨by simpa using els_lt h1, by simpa using h2.1⟩

set_option maxHeartbeats 4000000 in
theorem pair8_any (base b low high : Nat) (ws : Nat → Nat) (wish : Nat) (w : World) (hT : PB base w b (low : Int) (high : Int) ws) (hw : wish < 65536) (hz : Dz w) :
    Calls Tryd.prog 12 #[.pointer (some ⟨b, 0, none⟩), .int .u16 (wish : Int)] w fun e w' => e = .returned (.tuple #[.int .u16 (fsn (prs ws wish) wish (prl ws (els ws)) : Nat), .int .i64 (tke (prs ws wish) (prl ws (els ws)))]) ∧ tkQ base w' b low high ws (prs ws wish) (prl ws (els ws)) (fsn (prs ws wish) wish (prl ws (els ws))) ∧ But (fun g => g = b) w w' := by
  go_enter Tryd.func12, Tryd.ntmps12
  go_upto_region 3 with fail
  refine anyT_begin (R := But (fun _ => False)) 15 rfl (by kernel_rfl) ?_
  have ld : Later w w.drew := Later.drew w
  have hTd := hT.later ld
  have hzd := hz.later ld
  generalize w.drew = Wd at *
  refine anyT_val (But.pre _) 0 rfl (by kernel_rfl) (by kernel_rfl) (by kernel_rfl) (fun _ _ _ _ h => h) rfl ?_; apply Exists.intro; refine ⟨fun v1 hv1 => ?_, ?_⟩; (· (go_simp; rfl)); simp only [Act.put, List.setIfInBounds_toArray, List.set_cons_zero, List.set_cons_succ]
  refine anyT_val (But.pre _) 1 rfl (by kernel_rfl) (by kernel_rfl) (by kernel_rfl) (fun _ _ _ _ h => h) rfl ?_; apply Exists.intro; refine ⟨fun v1 hv1 => ?_, ?_⟩; (· (go_simp; rfl)); simp only [Act.put, List.setIfInBounds_toArray, List.set_cons_zero, List.set_cons_succ]
  refine anyT_val (But.pre _) 2 rfl (by kernel_rfl) (by kernel_rfl) (by kernel_rfl) (fun _ _ _ _ h => h) rfl ?_; apply Exists.intro; refine ⟨fun v1 hv1 => ?_, ?_⟩; (· (go_simp; rfl)); simp only [Act.put, List.setIfInBounds_toArray, List.set_cons_zero, List.set_cons_succ]
  refine anyT_val (But.pre _) 3 rfl (by kernel_rfl) (by kernel_rfl) (by kernel_rfl) (fun _ _ _ _ h => h) rfl ?_; apply Exists.intro; refine ⟨fun v1 hv1 => ?_, ?_⟩; (· (go_simp; rfl)); simp only [Act.put, List.setIfInBounds_toArray, List.set_cons_zero, List.set_cons_succ]
  refine anyT_val (But.pre _) 4 rfl (by kernel_rfl) (by kernel_rfl) (by kernel_rfl) (fun _ _ _ _ h => h) rfl ?_; apply Exists.intro; refine ⟨fun v1 hv1 => ?_, ?_⟩; (· (go_simp; rfl)); simp only [Act.put, List.setIfInBounds_toArray, List.set_cons_zero, List.set_cons_succ]
  refine anyT_val (But.pre _) 5 rfl (by kernel_rfl) (by kernel_rfl) (by kernel_rfl) (fun _ _ _ _ h => h) rfl ?_; apply Exists.intro; refine ⟨fun v1 hv1 => ?_, ?_⟩; (· (go_simp; rfl)); simp only [Act.put, List.setIfInBounds_toArray, List.set_cons_zero, List.set_cons_succ]
  refine anyT_val (But.pre _) 6 rfl (by kernel_rfl) (by kernel_rfl) (by kernel_rfl) (fun _ _ _ _ h => h) rfl ?_; apply Exists.intro; refine ⟨fun v1 hv1 => ?_, ?_⟩; (· (go_simp; rfl)); simp only [Act.put, List.setIfInBounds_toArray, List.set_cons_zero, List.set_cons_succ]
  refine anyT_val (But.pre _) 7 rfl (by kernel_rfl) (by kernel_rfl) (by kernel_rfl) (fun _ _ _ _ h => h) rfl ?_; apply Exists.intro; refine ⟨fun v1 hv1 => ?_, ?_⟩; (· (go_simp; rfl)); simp only [Act.put, List.setIfInBounds_toArray, List.set_cons_zero, List.set_cons_succ]
  refine anyT_one 8 rfl (by kernel_rfl) rfl ?_
  refine wp_enter 30 #[.pointer (some ⟨b, 2, none⟩)] (by go_simp) ?_
  refine (pairs8_in b Wd).mono ?_
  rintro e W1 ⟨rfl, hW1⟩
  have la : Later Wd W1 := by rw [hW1]; exact (Below.refl _ _).alloc (Nat.le_refl _) _
  have hbx : W1.heap[Wd.heap.size]? = some (.cells #[.pointer (some ⟨b, 2, none⟩)] 62 (0, 0)) := by rw [hW1]; exact heap_alloc_new _ _
  clear hW1
  refine ⟨But.of la, ?_⟩
  simp only [Act.put, List.setIfInBounds_toArray, List.set_cons_zero, List.set_cons_succ]
  have hT1 := hTd.later la
  have hz1 := hzd.later la
  have hbl := hTd.lt
  generalize Wd.heap.size = B at *
  have hBl : B < W1.heap.size := (Array.getElem?_eq_some_iff.1 hbx).1
  have HF := hide (first8_o wish 29 39 (.pointer (some ⟨b, 2, none⟩)) #[.pointer (some ⟨B, 0, none⟩)] (prs ws wish) (prl ws (els ws)) (KY (b + 1)) W1
    (enters_of Tryd.func29 (by kernel_rfl) rfl) (enters_of Tryd.func39 (by kernel_rfl) rfl)
    (fun W hW => hasPair_any base b (low : Int) (high : Int) ws wish W (hT1.later hW) hw)
    (fun w4 h4 => pairs_gen B b (b + 1) base (low : Int) (high : Int) ws w4 (later_keep h4 hbx) (by have := Below.size h4; omega) (hT1.later h4) (by omega) (hz1.later h4) (by omega))
    (fun h k => h.trans k) (fun w4 W l o o' h4 hl ho hc hw => KY.put (m := w4.heap.size) (by have := Below.size h4; omega) hl ho hc) (fun h4 hA hL => KY.of hL (by have := Below.size h4; omega)))
  refine anyT_one 9 rfl (by kernel_rfl) rfl ?_
  refine wp_enter 24 #[.int .u16 (wish : Int), .func (.func 29) #[.pointer (some ⟨b, 2, none⟩)] #[], .func (.func 39) #[] #[.pointer (some ⟨B, 0, none⟩)]] (by go_simp) ?_
  refine HF.out.mono ?_
  rintro e W2 ⟨rfl, l2⟩
  refine ⟨But.of l2, ?_⟩
  simp only [Act.put, List.setIfInBounds_toArray, List.set_cons_zero, List.set_cons_succ]
  have hlim : fsb (prs ws wish) (prl ws (els ws)) = true → fsn (prs ws wish) wish (prl ws (els ws)) < 65536 ∧ fsn (prs ws wish) wish (prl ws (els ws)) % 2 = 0 := fun h => pair_lim hw h
  have HLM := hide hlim
  have hbW2 : But (fun g => g = b) w W2 := (But.of ld).trans ((But.of la).trans (But.of l2))
  have hT2 := hT1.later l2
  clear hlim HF la l2 ld hTd hT1 hzd hz1
  generalize hqe : prs ws wish = q at *
  generalize hLe : prl ws (els ws) = L at *
  have HQE := hide hqe
  have HLE := hide hLe
  clear hqe hLe
  generalize hne : fsn q wish L = n at *
  have HNE := hide hne
  clear hne
  cases hbe : fsb q L with
  | true =>
    rw [hbe] at HLM
    obtain ⟨hn, hn2⟩ := HLM.out rfl
    have hn1 : n + 1 < 65536 := by omega
    have hn1' : (n : Int) + 1 < 65536 := by omega
    have HBE := hide hbe
    clear hbe
    refine anyT_val (But.pre _) 10 rfl (by kernel_rfl) (by kernel_rfl) (by kernel_rfl) (fun _ _ _ _ h => h) rfl ?_; apply Exists.intro; refine ⟨fun v1 hv1 => ?_, ?_⟩; (· (go_simp; rfl)); simp only [Act.put, List.setIfInBounds_toArray, List.set_cons_zero, List.set_cons_succ]
    refine anyT_val (But.pre _) 11 rfl (by kernel_rfl) (by kernel_rfl) (by kernel_rfl) (fun _ _ _ _ h => h) rfl ?_; apply Exists.intro; refine ⟨fun v1 hv1 => ?_, ?_⟩; (· (go_simp; rfl)); simp only [Act.put, List.setIfInBounds_toArray, List.set_cons_zero, List.set_cons_succ]
    refine anyT_val (But.pre _) 12 rfl (by kernel_rfl) (by kernel_rfl) (by kernel_rfl) (fun _ _ _ _ h => h) rfl ?_; apply Exists.intro; refine ⟨fun v1 hv1 => ?_, ?_⟩; (· (go_simp; rfl)); simp only [Act.put, List.setIfInBounds_toArray, List.set_cons_zero, List.set_cons_succ]
    refine anyT_val (But.pre _) 13 rfl (by kernel_rfl) (by kernel_rfl) (by kernel_rfl) (fun _ _ _ _ h => h) rfl ?_; apply Exists.intro; refine ⟨fun v1 hv1 => ?_, ?_⟩; (· (go_simp; rfl)); simp only [Act.put, List.setIfInBounds_toArray, List.set_cons_zero, List.set_cons_succ]
    refine anyT_val (But.pre _) 14 rfl (by kernel_rfl) (by kernel_rfl) (by kernel_rfl) (fun _ _ _ _ h => h) rfl ?_; apply Exists.intro; refine ⟨fun v1 hv1 => ?_, ?_⟩; (· (go_simp; rfl)); simp only [Act.put, List.setIfInBounds_toArray, List.set_cons_zero, List.set_cons_succ]
    refine anyT_done (by kernel_rfl) ?_
    go_wp2_with fail
    refine (remove_any base b (low : Int) (high : Int) ws n W2 hT2 hn).mono ?_
    rintro e W3a ⟨⟨v, rfl⟩, hT3a, hb3a⟩
    have HR2 := hide (remove_any base b (low : Int) (high : Int) _ (n + 1) W3a hT3a hn1)
    rw [show ((n + 1 : Nat) : Int) = (n : Int) + 1 from by omega] at HR2
    clear hn2
    go_wp2_with fail
    refine HR2.out.mono ?_
    rintro e W3 ⟨⟨v2, rfl⟩, hT3, hb3⟩
    have hfb := (hbW2.trans hb3a).trans hb3
    go_wp2_with fail
    refine bodyPost_ret (v := .tuple #[.int .u16 (n : Int), .int .i64 0]) (by simp [results, Tryd.results12, go_sem]) rfl ?_
    rw [HQE.out, HLE.out, HNE.out, tke_t HBE.out]
    exact ⟨rfl, .inr ⟨HBE.out, hT3⟩, hfb⟩
  | false =>
    have HBE := hide hbe
    clear hbe
    refine anyT_val (But.pre _) 10 rfl (by kernel_rfl) (by kernel_rfl) (by kernel_rfl) (fun _ _ _ _ h => h) rfl ?_; apply Exists.intro; refine ⟨fun v1 hv1 => ?_, ?_⟩; (· (go_simp; rfl)); simp only [Act.put, List.setIfInBounds_toArray, List.set_cons_zero, List.set_cons_succ]
    refine anyT_val (But.pre _) 11 rfl (by kernel_rfl) (by kernel_rfl) (by kernel_rfl) (fun _ _ _ _ h => h) rfl ?_; apply Exists.intro; refine ⟨fun v1 hv1 => ?_, ?_⟩; (· (go_simp; rfl)); simp only [Act.put, List.setIfInBounds_toArray, List.set_cons_zero, List.set_cons_succ]
    refine anyT_val (But.pre _) 12 rfl (by kernel_rfl) (by kernel_rfl) (by kernel_rfl) (fun _ _ _ _ h => h) rfl ?_; apply Exists.intro; refine ⟨fun v1 hv1 => ?_, ?_⟩; (· (go_simp; rfl)); simp only [Act.put, List.setIfInBounds_toArray, List.set_cons_zero, List.set_cons_succ]
    refine anyT_val (But.pre _) 13 rfl (by kernel_rfl) (by kernel_rfl) (by kernel_rfl) (fun _ _ _ _ h => h) rfl ?_; apply Exists.intro; refine ⟨fun v1 hv1 => ?_, ?_⟩; (· (go_simp; rfl)); simp only [Act.put, List.setIfInBounds_toArray, List.set_cons_zero, List.set_cons_succ]
    refine anyT_val (But.pre _) 14 rfl (by kernel_rfl) (by kernel_rfl) (by kernel_rfl) (fun _ _ _ _ h => h) rfl ?_; apply Exists.intro; refine ⟨fun v1 hv1 => ?_, ?_⟩; (· (go_simp; rfl)); simp only [Act.put, List.setIfInBounds_toArray, List.set_cons_zero, List.set_cons_succ]
    refine anyT_done (by kernel_rfl) ?_
    go_wp2_with fail
    refine bodyPost_ret (v := .tuple #[.int .u16 0, .int .i64 9]) (by simp [results, Tryd.results12, go_sem]) rfl ?_
    rw [HQE.out, HLE.out, HNE.out, tke_f HBE.out]
    have hn0 : n = 0 := by
      rw [← HNE.out]
      have := HBE.out
      unfold fsb at this
      unfold fsn
      cases q with
      | true => simp at this
      | false =>
        cases L with
        | nil => rfl
        | cons x L => simp at this
    subst hn0
    exact ⟨rfl, .inl ⟨HBE.out, hT2⟩, hbW2⟩
end Go.Proofs.YtdjncjijgiemgaaDoor

/- The walk of TopPorts. -/
namespace Go.Proofs.YtdjncjijgiemgaaDoor
open Go.RowKit Go.Shelf
set_option maxRecDepth 100000
set_option linter.unusedVariables false
set_option linter.unusedSimpArgs false

theorem fr_take {ws : Nat → Nat} {a b : Nat} (h : ∀ m, fr ws m = decide (a ≤ m ∧ m ≤ b)) (m : Nat) : fr (wsR ws a) m = decide (a + 1 ≤ m ∧ m ≤ b) := by
  unfold wsR
  rw [fr_remove, h m, Bool.eq_iff_iff]
  simp
  omega
theorem fr_give {ws : Nat → Nat} {a k : Nat} (h : ∀ m, fr ws m = decide (a ≤ m ∧ m < k)) (hak : a ≤ k) (m : Nat) : fr (wsA ws k) m = decide (a ≤ m ∧ m < k + 1) := by
  unfold wsA
  rw [fr_add, h m, Bool.eq_iff_iff]
  simp
  omega

theorem take_low (base b low high : Nat) (ws : Nat → Nat) (a c : Nat) (w : World) (hT : PB base w b (low : Int) (high : Int) ws) (hz : Dz w) (ha : 1 ≤ a) (hac : a ≤ c) (hc : c < 65536) (h : ∀ m, fr ws m = decide (a ≤ m ∧ m ≤ c)) :
    Calls Tryd.prog 10 #[.pointer (some ⟨b, 0, none⟩), .int .u16 0] w fun e w' => e = .returned (.tuple #[.int .u16 (a : Int), .int .i64 0]) ∧ PB base w' b (low : Int) (high : Int) (wsR ws a) ∧ But (fun g => g = b) w w' := by
  have hq : fr ws 0 = false := by rw [h]; simp; omega
  have hL := els_interval ws a c hac hc (fun m _ => h m)
  obtain ⟨L, hL2⟩ := nums_cons a c hac
  have hn : fsn false 0 (els ws) = a := by unfold fsn; rw [hL, hL2]; simp
  have hb : fsb false (els ws) = true := by unfold fsb; rw [hL, hL2]; simp
  refine (take8_any base b low high ws 0 w hT (by omega) hz).mono ?_
  rintro e w' ⟨rfl, ht, hbt⟩
  rw [hq] at ht ⊢
  rw [hn] at ht ⊢
  rw [tke_t hb]
  rcases ht with ⟨h1, _⟩ | ⟨_, h2⟩
  · rw [hb] at h1; cases h1
  · exact ⟨rfl, h2, hbt⟩
theorem take_none (base b low high : Nat) (ws : Nat → Nat) (wish : Nat) (w : World) (hT : PB base w b (low : Int) (high : Int) ws) (hz : Dz w) (hw : wish < 65536) (h : ∀ m, fr ws m = false) :
    Calls Tryd.prog 10 #[.pointer (some ⟨b, 0, none⟩), .int .u16 (wish : Int)] w fun e w' => e = .returned (.tuple #[.int .u16 0, .int .i64 9]) ∧ PB base w' b (low : Int) (high : Int) ws ∧ But (fun g => g = b) w w' := by
  have hL := els_none ws (fun m _ => h m)
  have hn : fsn false wish (els ws) = 0 := by unfold fsn; rw [hL]; rfl
  have hb : fsb false (els ws) = false := by unfold fsb; rw [hL]; rfl
  refine (take8_any base b low high ws wish w hT hw hz).mono ?_
  rintro e w' ⟨rfl, ht, hbt⟩
  rw [h wish] at ht ⊢
  rw [hn] at ht ⊢
  rw [tke_f hb]
  rcases ht with ⟨_, h2⟩ | ⟨h1, _⟩
  · exact ⟨rfl, h2, hbt⟩
  · rw [hb] at h1; cases h1
theorem cnt_none {ws : Nat → Nat} (h : ∀ m, fr ws m = false) : cnt ws 1024 = 0 := by
  rw [cnt_eq]
  show (els ws).length = 0
  rw [els_none ws (fun m _ => h m)]
  rfl
theorem cnt_interval {ws : Nat → Nat} {a b : Nat} (hab : a ≤ b) (hb : b < 65536) (h : ∀ m, fr ws m = decide (a ≤ m ∧ m ≤ b)) : cnt ws 1024 = b - a + 1 := by
  rw [cnt_eq]
  show (els ws).length = _
  rw [els_interval ws a b hab hb (fun m _ => h m), nums_length]

end Go.Proofs.YtdjncjijgiemgaaDoor

/- Package pool: what nil answers, the law's live, the walk of PoolNone. -/
namespace Go.Proofs.YtdjncjijgiemgaaDoor
open Go.RowKit Go.Shelf
set_option maxRecDepth 100000
set_option linter.unusedVariables false
set_option linter.unusedSimpArgs false

theorem fr_wsR (ws : Nat → Nat) (n m : Nat) : fr (wsR ws n) m = (fr ws m && !decide (m = n)) := fr_remove ws n m
theorem fr_wsA (ws : Nat → Nat) (n m : Nat) : fr (wsA ws n) m = (fr ws m || decide (m = n)) := fr_add ws n m

theorem els_congr {ws ws' : Nat → Nat} (h : ∀ m, m < 65536 → fr ws m = fr ws' m) : els ws = els ws' := by
  rw [els_eq, els_eq]
  exact List.filter_congr (fun x hx => h x (by simpa using hx))
theorem cnt_els (ws : Nat → Nat) : cnt ws 1024 = (els ws).length := cnt_eq ws 1024
theorem els_remove (ws : Nat → Nat) (n : Nat) : els (wsR ws n) = (els ws).erase n := by
  have hnd : (els ws).Nodup := by rw [els_eq]; exact List.Nodup.sublist List.filter_sublist List.nodup_range
  rw [List.Nodup.erase_eq_filter hnd, els_eq, els_eq, List.filter_filter]
  refine List.filter_congr (fun x hx => ?_)
  rw [fr_wsR, Bool.and_comm]
  congr 1
  first | done | (rw [Bool.eq_iff_iff]; simp)
theorem mem_els {ws : Nat → Nat} {n : Nat} : n ∈ els ws ↔ n < 65536 ∧ fr ws n = true := by rw [els_eq]; simp
theorem cnt_remove (ws : Nat → Nat) (n : Nat) (hn : n < 65536) (h : fr ws n = true) : cnt (wsR ws n) 1024 + 1 = cnt ws 1024 := by
  rw [cnt_els, cnt_els, els_remove]
  have hm : n ∈ els ws := mem_els.2 ⟨hn, h⟩
  have := List.length_erase_of_mem hm
  have := List.length_pos_of_mem hm
  omega
theorem cnt_add (ws : Nat → Nat) (n : Nat) (hn : n < 65536) (h : fr ws n = false) : cnt (wsA ws n) 1024 = cnt ws 1024 + 1 := by
  have h1 := cnt_remove (wsA ws n) n hn (by rw [fr_wsA]; simp)
  have h2 : els (wsR (wsA ws n) n) = els ws := els_congr (fun m _ => by
    rw [fr_wsR, fr_wsA]
    by_cases e : m = n
    · subst e; simp [h]
    · simp [e])
  rw [cnt_els, h2, ← cnt_els] at h1
  exact h1.symm
theorem head_least {p : Nat → Bool} {N a : Nat} (ha : a < N) (hp : p a = true) (hl : ∀ m, m < a → p m = false) : ∃ L, (List.range N).filter p = a :: L := by
  obtain ⟨k, rfl⟩ : ∃ k, N = a + 1 + k := ⟨N - a - 1, by omega⟩
  rw [List.range_add, List.filter_append, List.range_succ, List.filter_append, (List.filter_eq_nil_iff.2 (fun x hx => by rw [hl x (by simpa using hx)]; simp)), List.nil_append]
  simp [hp]

theorem take_wish (base b low high : Nat) (ws : Nat → Nat) (wish : Nat) (w : World) (hT : PB base w b (low : Int) (high : Int) ws) (hz : Dz w) (hw : wish < 65536) (hq : fr ws wish = true) :
    Calls Tryd.prog 10 #[.pointer (some ⟨b, 0, none⟩), .int .u16 (wish : Int)] w fun e w' => e = .returned (.tuple #[.int .u16 (wish : Int), .int .i64 0]) ∧ PB base w' b (low : Int) (high : Int) (wsR ws wish) ∧ But (fun g => g = b) w w' := by
  refine (take8_any base b low high ws wish w hT hw hz).mono ?_
  rintro e w' ⟨rfl, ht, hbt⟩
  rw [hq] at ht ⊢
  have hb : fsb true (els ws) = true := rfl
  rw [tke_t hb]
  rcases ht with ⟨h1, _⟩ | ⟨_, h2⟩
  · cases h1
  · exact ⟨rfl, h2, hbt⟩
theorem take_least (base b low high : Nat) (ws : Nat → Nat) (wish a : Nat) (w : World) (hT : PB base w b (low : Int) (high : Int) ws) (hz : Dz w) (hw : wish < 65536) (hq : fr ws wish = false) (ha : a < 65536) (hfa : fr ws a = true) (hl : ∀ m, m < a → fr ws m = false) :
    Calls Tryd.prog 10 #[.pointer (some ⟨b, 0, none⟩), .int .u16 (wish : Int)] w fun e w' => e = .returned (.tuple #[.int .u16 (a : Int), .int .i64 0]) ∧ PB base w' b (low : Int) (high : Int) (wsR ws a) ∧ But (fun g => g = b) w w' := by
  obtain ⟨L, hL⟩ := head_least ha hfa hl
  rw [← els_eq] at hL
  have hn : fsn false wish (els ws) = a := by unfold fsn; rw [hL]; simp
  have hb : fsb false (els ws) = true := by unfold fsb; rw [hL]; simp
  refine (take8_any base b low high ws wish w hT hw hz).mono ?_
  rintro e w' ⟨rfl, ht, hbt⟩
  rw [hq] at ht ⊢
  rw [hn] at ht ⊢
  rw [tke_t hb]
  rcases ht with ⟨h1, _⟩ | ⟨_, h2⟩
  · rw [hb] at h1; cases h1
  · exact ⟨rfl, h2, hbt⟩
theorem pair_none (base b low high : Nat) (ws : Nat → Nat) (wish : Nat) (w : World) (hT : PB base w b (low : Int) (high : Int) ws) (hz : Dz w) (hw : wish < 65536) (h : ∀ m, m < 65536 → prs ws m = false) :
    Calls Tryd.prog 12 #[.pointer (some ⟨b, 0, none⟩), .int .u16 (wish : Int)] w fun e w' => e = .returned (.tuple #[.int .u16 0, .int .i64 9]) ∧ PB base w' b (low : Int) (high : Int) ws ∧ But (fun g => g = b) w w' := by
  have hL : prl ws (els ws) = [] := List.filter_eq_nil_iff.2 (fun x hx => by rw [h x (els_lt hx)]; simp)
  have hn : fsn false wish (prl ws (els ws)) = 0 := by unfold fsn; rw [hL]; rfl
  have hb : fsb false (prl ws (els ws)) = false := by unfold fsb; rw [hL]; rfl
  refine (pair8_any base b low high ws wish w hT hw hz).mono ?_
  rintro e w' ⟨rfl, ht, hbt⟩
  rw [h wish hw] at ht ⊢
  rw [hn] at ht ⊢
  rw [tke_f hb]
  rcases ht with ⟨_, h2⟩ | ⟨h1, _⟩
  · exact ⟨rfl, h2, hbt⟩
  · rw [hb] at h1; cases h1

theorem take_nil (n : Int) (w : World) : Calls Tryd.prog 10 #[.pointer none, .int .u16 n] w fun e w' => e = .returned (.tuple #[.int .u16 0, .int .i64 1]) ∧ w' = w := by
  go_enter Tryd.func10, Tryd.ntmps10
  go_wp2_with fail
  exact bodyPost_ret (v := .tuple #[.int .u16 0, .int .i64 1]) (by simp [results, Tryd.results10, go_sem]) rfl ⟨rfl, rfl⟩
theorem pair_nil (n : Int) (w : World) : Calls Tryd.prog 12 #[.pointer none, .int .u16 n] w fun e w' => e = .returned (.tuple #[.int .u16 0, .int .i64 1]) ∧ w' = w := by
  go_enter Tryd.func12, Tryd.ntmps12
  go_wp2_with fail
  exact bodyPost_ret (v := .tuple #[.int .u16 0, .int .i64 1]) (by simp [results, Tryd.results12, go_sem]) rfl ⟨rfl, rfl⟩
theorem give_nil (n : Int) (w : World) : Calls Tryd.prog 11 #[.pointer none, .int .u16 n] w fun e w' => e = .returned (.int .i64 1) ∧ w' = w := by
  go_enter Tryd.func11, Tryd.ntmps11
  go_wp2_with fail
  go_ret
  exact ⟨rfl, rfl⟩
theorem has_nil (n : Int) (w : World) : Calls Tryd.prog 17 #[.pointer none, .int .u16 n] w fun e w' => e = .returned (.bool false) ∧ Later w w' := by
  go_enter Tryd.func17, Tryd.ntmps17
  go_wp2_with fail
  go_ret
  exact ⟨rfl, Later.refl _⟩
theorem free_nil (w : World) : Calls Tryd.prog 16 #[.pointer none] w fun e w' => e = .returned (.int .i64 0) ∧ w' = w := by
  go_enter Tryd.func16, Tryd.ntmps16
  go_wp2_with fail
  go_ret
  exact ⟨rfl, rfl⟩
theorem fork_nil (w : World) : Calls Tryd.prog 13 #[.pointer none] w fun e w' => e = .returned (.pointer none) ∧ w' = w := by
  go_enter Tryd.func13, Tryd.ntmps13
  go_wp2_with fail
  go_ret
  exact ⟨rfl, rfl⟩
theorem used_nil (w : World) : Calls Tryd.prog 20 #[.pointer none] w fun e w' => e = .returned (.slice none 0 0) ∧ Later w w' := by
  refine (callsIn_wide (n := 5)).1 ?_
  refine callsIn_of_wp_marks Tryd.func20 rfl trivial ?_ rfl
  simp only [Tryd.ntmps20, List.size_toArray, List.length_cons, List.length_nil, Nat.reduceAdd, Nat.reduceSub, Array.replicate_succ, Array.replicate_zero, List.push_toArray, List.append_toArray, List.nil_append, List.cons_append]
  gi_wp2
  exact ⟨.slice none 0 0, by simp [results, Tryd.results20, go_sem], rfl, (Below.refl _ _).alloc (Nat.le_refl _) _⟩
theorem new8_no (low high : Int) (h : low = 0 ∨ high < low) (w : World) : Calls Tryd.prog 18 #[.int .u16 low, .int .u16 high] w fun e w' => e = .returned (.pointer none) ∧ w' = w := by
  refine (callsIn_wide (n := 5)).1 ?_
  refine callsIn_of_wp_marks Tryd.func18 rfl trivial ?_ rfl
  simp only [Tryd.ntmps18, List.size_toArray, List.length_cons, List.length_nil, Nat.reduceAdd, Nat.reduceSub, Array.replicate_succ, Array.replicate_zero, List.push_toArray, List.append_toArray, List.nil_append, List.cons_append]
  by_cases h0 : low = 0
  · subst h0
    gi_wp2
    exact ⟨.pointer none, by simp [results, Tryd.results18, go_sem], rfl, rfl⟩
  · have h1 : high < low := by omega
    clear h
    gi_wp2
    exact ⟨.pointer none, by simp [results, Tryd.results18, go_sem], rfl, rfl⟩

set_option maxHeartbeats 4000000 in
theorem live8_any (w : World) (hz : Dz w) : Calls Tryd.prog 8 #[] w fun e w' => e = .returned (.bool true) ∧ Below w.heap.size w w' := by
  have hzp := hz.pos
  have f0 : ∀ m, fr (wsOf (nums 5 8)) m = decide (5 ≤ m ∧ m ≤ 8) := fun m => by rw [fr_wsOf, decide_eq_decide, mem_nums (by omega)]
  have n0 : cnt (wsOf (nums 5 8)) 1024 = 4 := by rw [cnt_interval (by omega) (by omega) f0]
  have HNEW := hide (new8_yes 5 8 (by omega) (by omega) (by omega) w)
  generalize wsOf (nums 5 8) = ws0 at *
  have f1 : ∀ m, fr (wsR ws0 7) m = decide (m = 5 ∨ m = 6 ∨ m = 8) := fun m => by rw [fr_wsR, f0, Bool.eq_iff_iff]; simp; omega
  have n1 := cnt_remove ws0 7 (by omega) (by rw [f0]; rfl)
  have F0 := hide f0
  generalize hw1 : wsR ws0 7 = ws1 at *
  have n2 := cnt_remove ws1 5 (by omega) (by rw [f1]; rfl)
  have HC : Hid (cnt (wsR ws1 5) 1024 = 2) := by show _ = _; omega
  have HP : Hid (∀ m, m < 65536 → prs ws1 m = false) := fun m _ => by unfold prs; rw [f1, f1, Bool.eq_false_iff]; simp; omega
  have F1 := hide f1
  have HW1 := hide hw1
  clear f0 f1 n0 n1 n2 hw1
  generalize hB : w.heap.size = B at *
  go_enter Tryd.func8, Tryd.ntmps8
  go_wp2_with fail
  refine HNEW.out.mono ?_
  rintro e w1 ⟨rfl, l1, hT1⟩
  have lb1 : Below B w w1 := by rw [← hB]; exact l1
  clear l1
  go_wp2_with fail
  refine (take_wish B B 5 8 ws0 7 w1 hT1 (hz.below lb1 hzp) (by omega) (by rw [F0.out]; rfl)).mono ?_
  rintro e w2 ⟨rfl, hT2, hb2⟩
  rw [HW1.out] at hT2
  have lb2 : Below B w w2 := lb1.trans (hb2.below (by have := lb1.size; omega) (fun g hg e => by omega))
  go_wp2_with fail
  refine (pair_none B B 5 8 ws1 5 w2 hT2 (hz.below lb2 hzp) (by omega) HP.out).mono ?_
  rintro e w3 ⟨rfl, hT3, hb3⟩
  have lb3 : Below B w w3 := lb2.trans (hb3.below (by have := lb2.size; omega) (fun g hg e => by omega))
  go_wp2_with fail
  refine (take_least B B 5 8 ws1 7 5 w3 hT3 (hz.below lb3 hzp) (by omega) (by rw [F1.out]; rfl) (by omega) (by rw [F1.out]; rfl) (fun m hm => by rw [F1.out]; simp; omega)).mono ?_
  rintro e w4 ⟨rfl, hT4, hb4⟩
  have lb4 : Below B w w4 := lb3.trans (hb4.below (by have := lb3.size; omega) (fun g hg e => by omega))
  go_wp2_with fail
  refine (free8_any B B 5 8 (wsR ws1 5) 2 HC.out w4 hT4).mono ?_
  rintro e w5 ⟨rfl, rfl⟩
  go_wp2_with fail
  go_ret
  exact ⟨rfl, lb4⟩

end Go.Proofs.YtdjncjijgiemgaaDoor

/- Package pool: Fork. -/
namespace Go.Proofs.YtdjncjijgiemgaaDoor
open Go.RowKit Go.Shelf
set_option maxRecDepth 100000
set_option linter.unusedVariables false
set_option linter.unusedSimpArgs false

theorem setRow_but (W : World) (g : Nat) (cs : Array Value) : But (fun i => i = g) W (W.setRow g cs) := by
  refine ⟨rfl, rfl, rfl, ?_, fun i hi he => ?_⟩
  · unfold World.setRow
    simp
  · unfold World.setRow
    simp only
    rw [Array.getElem?_modify, if_neg (fun e => he e.symm)]
theorem info_pool : (Tryd.prog.info? 54).map (·.size) = some 1026 := by kernel_rfl

/-- What a new pool holds. -/
@[irreducible] def zcp : Array Value := (Value.int .u16 0 :: .int .u16 0 :: List.replicate 1024 (.int .u64 0)).toArray
theorem zcp_size : zcp.size = 1026 := by unfold zcp; simp
theorem zcp_ne : ¬ zcp = #[] := fun h => by have := zcp_size; rw [h] at this; simp at this
theorem zv_pool (w : World) : (zeroValue 54).run Tryd.prog w = .ok (.agg zcp) w := by
  unfold zcp
  kernel_rfl
attribute [local go_sem] zv_pool zcp_ne

set_option maxHeartbeats 2000000 in
theorem fork8_any (base b : Nat) (low high : Int) (ws : Nat → Nat) (w : World) (hT : PB base w b low high ws) :
    Calls Tryd.prog 13 #[.pointer (some ⟨b, 0, none⟩)] w fun e w' => Later w w' ∧ e = .returned (.pointer (some ⟨w.heap.size, 0, none⟩)) ∧ PB w.heap.size w' w.heap.size low high ws := by
  obtain ⟨h1, h2, h3⟩ := hT
  have hra : w.rangeAt b 0 (pcl low high ws) := fun j v hj => by rw [Nat.zero_add, block_cell h3, List.getElem?_toArray]; exact hj
  have hone : ∀ v ∈ pcl low high ws, v.oneCell' = true := by
    intro v hm
    unfold pcl at hm
    rcases List.mem_cons.1 hm with rfl | hm
    · rfl
    · rcases List.mem_cons.1 hm with rfl | hm
      · rfl
      · obtain ⟨i, _, rfl⟩ := List.mem_map.1 hm
        rfl
  have hln : (pcl low high ws).length = 1026 := by unfold pcl; simp
  have la : Later w (w.alloc (.cells zcp 54)) := (Below.refl _ _).alloc (Nat.le_refl _) _
  have z0 := heap_alloc_new w (.cells zcp 54)
  have hzs : zcp.size = 1026 := zcp_size
  have HRA := hide hra
  have HONE := hide (all_oneCell_toArray hone)
  have HSR := hide (setRow_heap (w.alloc (.cells zcp 54)) w.heap.size _ (pcl low high ws).toArray 54 (0, 0) z0)
  have HSB := hide (setRow_but (w.alloc (.cells zcp 54)) w.heap.size (pcl low high ws).toArray)
  have HZS := hide hzs
  have Z0 := hide z0
  have H2 := hide h2
  clear hra hone hzs z0 h1 h2 h3
  generalize hcs : pcl low high ws = cs at *
  have HCS := hide hcs
  clear hcs
  go_enter Tryd.func13, Tryd.ntmps13
  go_wp2_with (first | (refine wpList_load_mid rfl 54 (.tmp 7) rfl b 0 rfl cs _ HRA.out Tryd.underlying54 rfl (by rw [info_pool]; simp [hln]) ?_) | (refine wpList_store_row rfl 54 (.tmp 3) (.tmp 8) rfl w.heap.size cs.toArray rfl rfl 54 _ Z0.out (by rw [info_pool]; simp [hln]) (by rw [HZS.out]; simp [hln]) HONE.out ?_))
  have hb1 := Below.trans la (HSB.out.below la.size (fun x hx e => by omega))
  have h1 := HSR.out
  generalize World.setRow _ _ _ = w1 at *
  go_ret
  exact ⟨hb1, rfl, Nat.le_refl _, H2.out, by rw [HCS.out]; exact h1⟩
end Go.Proofs.YtdjncjijgiemgaaDoor

/- Package pool: appends of 16 bits, Take in two cases, how many are taken; the document's New; play without deeds. -/
namespace Go.Proofs.YtdjncjijgiemgaaDoor
open Go.RowKit Go.Shelf
set_option maxRecDepth 100000
set_option linter.unusedVariables false
set_option linter.unusedSimpArgs false

theorem wpList_app16 {ops : Array Oper} {rest : List Oper} {o : Oper} {a : Act} {Q : Exit → Act → World → Prop} {W : World} (hgd : o.guard = none) (s y : Operand)
    (ho : o.op = .call { callee := .builtin .append, args := #[s, y], argTypes := #[45, 45] }) (base : Nat) (v : Value) (M : List Nat) (x : Nat)
    (hs : a.eval s = v) (hy : a.eval y = .slice (some ⟨W.heap.size, 0, none⟩) 1 1) (hown : W.ownsRow base 22 1 v M.length (u16s M)) (hb : base ≤ W.heap.size) (hM : M.length ≤ 100000)
    (h : ∀ g cp W2, W2.ownsRow base 22 1 (.slice (some ⟨g, 0, none⟩) (M.length + 1) cp) (M ++ [x]).length (u16s (M ++ [x])) → Below base W W2 → wpList Tryd.prog ops Q rest (a.put o.dst (.slice (some ⟨g, 0, none⟩) (M.length + 1) cp)) W2) :
    wpList Tryd.prog ops Q (o :: rest) a (W.alloc (.cells #[.int .u16 (x : Int)] 22)) := by
  obtain ⟨i0, hi0, hz0, hz1, hz2⟩ := info_parts info_u16
  have la : Later W (W.alloc (.cells #[.int .u16 (x : Int)] 22)) := (Below.refl _ _).alloc (Nat.le_refl _) _
  have hownA := ownsN_ct hown (CT.of la)
  refine wpList_append_own _ hgd s y 45 ho base 22 i0 (.int .u16 0) 1 2 Tryd.underlying45 hi0 hz0 hz1 hz2 rfl (by decide) v M.length (u16s M) hs hownA ⟨W.heap.size, 0, none⟩ 1 1 [.int .u16 (x : Int)] hy rfl (new_u16 W [.int .u16 (x : Int)]) (by intro u hu; simp at hu; subst hu; rfl) (by unfold maxLen; omega) (by omega) (by have := la.size; omega) ?_
  intro v2 W2 hrow hg _
  obtain ⟨g2, cp2, rfl⟩ := ownsRow_succ hrow
  refine h g2 cp2 W2 ?_ ?_
  · rw [u16s_snoc, List.length_append, List.length_singleton]
    exact hrow
  · refine (la.mono hb).trans ⟨hg.os, hg.tape, hg.output, hg.size, fun i hi => hg.block i (by have := la.size; omega) (fun e => ?_)⟩
    have := (hown.lt i e.symm).1
    omega

theorem ownsN_but {E : Nat → Prop} {t : TypeId} {sz base : Nat} {A B : World} {v : Value} {n : Nat} {xs : List Value} (h : A.ownsRow base t sz v n xs) (k : But E A B) (hE : ∀ g, base ≤ g → ¬ E g) : B.ownsRow base t sz v n xs := by
  obtain ⟨h1, h2 | ⟨g, cap, cur, hv, hg, hh, r⟩⟩ := h
  · exact ⟨h1, .inl h2⟩
  · exact ⟨h1, .inr ⟨g, cap, cur, hv, hg, (k.block g (Array.getElem?_eq_some_iff.1 hh).1 (hE g hg)).trans hh, r⟩⟩
theorem ownsN_cell {base : Nat} {A : World} {xs : List Nat} {sa : Option Addr} {n cap : Nat} (h : A.ownsRow base 22 1 (.slice sa n cap) xs.length (u16s xs)) (hne : 0 < xs.length) : ∃ g, sa = some ⟨g, 0, none⟩ ∧ xs.length ≤ cap ∧ cap ≤ maxLen ∧ ∀ j, j < xs.length → A.cell? ⟨g, j, none⟩ = some (.int .u16 ((xs[j]?.getD 0 : Nat) : Int)) := by
  obtain ⟨h1, ⟨e, h0⟩ | ⟨g, cp, cur, e, hg, hh, hl, hm, hs, hc⟩⟩ := h
  · omega
  · cases e
    refine ⟨g, rfl, hl, hm, fun j hj => ?_⟩
    rw [block_cell hh j]
    have : cur.toList[j]? = (u16s xs)[j]? := by rw [← hc, List.getElem?_take_of_lt (by omega)]
    rw [← Array.getElem?_toList, this]
    unfold u16s
    rw [List.getElem?_map, List.getElem?_eq_getElem hj]
    rfl

/-- Take, in two cases: one is given that was free, or there is none. -/
def tk2 (base : Nat) (w : World) (b low high : Nat) (ws : Nat → Nat) (e : Ending) (w' : World) : Prop :=
  (∃ n, n < 65536 ∧ fr ws n = true ∧ e = .returned (.tuple #[.int .u16 (n : Int), .int .i64 0]) ∧ PB base w' b (low : Int) (high : Int) (wsR ws n) ∧ But (fun g => g = b) w w') ∨ ((∀ m, m < 65536 → fr ws m = false) ∧ e = .returned (.tuple #[.int .u16 0, .int .i64 9]) ∧ PB base w' b (low : Int) (high : Int) ws ∧ But (fun g => g = b) w w')
theorem take_two (base b low high : Nat) (ws : Nat → Nat) (wish : Nat) (w : World) (hT : PB base w b (low : Int) (high : Int) ws) (hz : Dz w) (hw : wish < 65536) :
    Calls Tryd.prog 10 #[.pointer (some ⟨b, 0, none⟩), .int .u16 (wish : Int)] w (tk2 base w b low high ws) := by
  refine (take8_any base b low high ws wish w hT hw hz).mono ?_
  rintro e w' ⟨rfl, ht, hbt⟩
  rcases ht with ⟨h1, h2⟩ | ⟨h1, h2⟩
  · right
    rw [tke_f h1]
    unfold fsb at h1
    cases hq : fr ws wish with
    | true => rw [hq] at h1; simp at h1
    | false =>
      rw [hq] at h1
      cases hL : els ws with
      | nil =>
        refine ⟨fun m hm => ?_, rfl, h2, hbt⟩
        cases hf : fr ws m with
        | false => rfl
        | true => have := mem_els.2 ⟨hm, hf⟩; rw [hL] at this; simp at this
      | cons x L => rw [hL] at h1; simp at h1
  · left
    rw [tke_t h1]
    refine ⟨_, ?_, ?_, rfl, h2, hbt⟩
    all_goals
      unfold fsb at h1
      unfold fsn
      cases hq : fr ws wish with
      | true => first | exact hw | exact hq
      | false =>
        rw [hq] at h1
        cases hL : els ws with
        | nil => rw [hL] at h1; simp at h1
        | cons x L =>
          have := mem_els.1 (show x ∈ els ws by rw [hL]; simp)
          simp [this.1, this.2]

theorem usd_len {low high : Nat} {ws : Nat → Nat} (hlh : low ≤ high) (hh : high < 65536) (h : ∀ m, m < 65536 → fr ws m = true → low ≤ m ∧ m ≤ high) : (usd low high ws).length + cnt ws 1024 = high - low + 1 := by
  have e1 : els ws = (nums low high).filter (fr ws) := by
    have : nums low high = (List.range 65536).filter (fun m => decide (low ≤ m ∧ m ≤ high)) := (filter_interval _ 65536 low high hlh hh (fun m _ => rfl)).symm
    rw [this, List.filter_filter, els_eq]
    refine List.filter_congr (fun x hx => ?_)
    have hx' : x < 65536 := by simpa using hx
    cases hf : fr ws x with
    | false => simp
    | true => have := h x hx' hf; simp [this]
  have e2 : usd low high ws = (nums low high).filter (fun m => !fr ws m) := by
    unfold usd usf
    refine List.filter_congr (fun x hx => ?_)
    have := (mem_nums hlh).1 hx
    unfold hsP
    simp [this]
  rw [cnt_els, e1, e2, ← nums_length low high]
  generalize nums low high = L
  induction L with
  | nil => rfl
  | cons x L ih =>
    cases hf : fr ws x with
    | false => simp [hf]; omega
    | true => simp [hf]; omega

theorem rnew8_yes (low high : Nat) (hl1 : 1 ≤ low) (hlh : low ≤ high) (hh : high < 65536) (w : World) :
    Calls Tryd.prog 19 #[.int .u16 (low : Int), .int .u16 (high : Int)] w fun e w' => e = .returned (.pointer (some ⟨w.heap.size, 0, none⟩)) ∧ w' = w.alloc (.cells #[.int .i64 (low : Int), .int .i64 (high : Int), .slice none 0 0] 61) := by
  have h0 : ¬ (low : Int) = 0 := by omega
  have h1 : ¬ (high : Int) < (low : Int) := by omega
  have h2 : 0 ≤ (high : Int) ∧ (high : Int) ≤ 65535 := by omega
  have h3 : 0 ≤ (low : Int) ∧ (low : Int) ≤ 65535 := by omega
  clear hl1 hlh hh
  generalize (low : Int) = lo at *
  generalize (high : Int) = hi at *
  obtain ⟨h4, h5⟩ := h2
  obtain ⟨h6, h7⟩ := h3
  go_enter Tryd.func19, Tryd.ntmps19
  go_wp2_with fail
  go_ret
  exact ⟨rfl, rfl⟩
end Go.Proofs.YtdjncjijgiemgaaDoor

/- Package pool: play without deeds. -/
namespace Go.Proofs.YtdjncjijgiemgaaDoor
open Go.RowKit Go.Shelf
set_option maxRecDepth 100000
set_option linter.unusedVariables false
set_option linter.unusedSimpArgs false

set_option maxHeartbeats 4000000 in
theorem play_none (lo sz : Nat) (hlo : lo ≤ 65535) (hsz : sz ≤ 65535) (w : World) :
    Calls Tryd.prog 7 #[.int .u16 (lo : Int), .int .u16 (sz : Int), .slice none 0 0] w fun e w' => Later w w' ∧ ∃ lw hg rb : Nat, 1 ≤ lw ∧ lw ≤ hg ∧ hg < 65536 ∧ e = .returned (.tuple #[.pointer (some ⟨w.heap.size, 0, none⟩), .pointer (some ⟨rb, 0, none⟩), .bool true]) ∧ PB w.heap.size w' w.heap.size (lw : Int) (hg : Int) (wsOf (nums lw hg)) := by
  have hlo' : (lo : Int) ≤ 65535 := by omega
  have hsz' : (sz : Int) ≤ 65535 := by omega
  go_enter Tryd.func7, Tryd.ntmps7
  go_upto_region 2 with fail
  obtain ⟨hi, hhi, hhl⟩ : ∃ hi : Nat, IntKind.u16.wrap ((lo : Int) + (sz : Int) % 200) = (hi : Int) ∧ hi ≤ 65535 := by
    refine ⟨(lo + sz % 200) % 65536, ?_, by omega⟩
    have e1 : ∀ z : Int, IntKind.u16.wrap z = z % 65536 := fun z => by simp [IntKind.wrap, IntKind.signed, IntKind.bits]
    rw [e1]
    omega
  rw [hhi]
  generalize (sz : Int) % 200 = q0 at *
  clear hhi hsz hsz'
  have hhl' : (hi : Int) ≤ 65535 := by omega
  have hcase : lo = 0 ∨ (lo ≠ 0 ∧ hi < lo) ∨ (1 ≤ lo ∧ lo ≤ hi) := by omega
  rcases hcase with rfl | ⟨ha, hb⟩ | ⟨h1, h2⟩
  case' inl =>
    go_upto_region 4 with fail
    obtain ⟨lw, hlw, hg, hhg, h1, h2, h3⟩ : ∃ lw : Nat, (10 : Int) = (lw : Int) ∧ ∃ hg : Nat, (20 : Int) = (hg : Int) ∧ 1 ≤ lw ∧ lw ≤ hg ∧ hg ≤ 65535 := ⟨10, rfl, 20, rfl, by omega, by omega, by omega⟩
    rw [show Value.int IntKind.u16 10 = Value.int IntKind.u16 (lw : Int) from by rw [← hlw], show Value.int IntKind.u16 20 = Value.int IntKind.u16 (hg : Int) from by rw [← hhg]]
    clear hlw hhg hhl hhl' hlo hlo'
  case' inr.inl =>
    have ha' : ¬ (lo : Int) = 0 := by omega
    have hb' : (hi : Int) < (lo : Int) := by omega
    go_upto_region 4 with fail
    obtain ⟨lw, hlw, hg, hhg, h1, h2, h3⟩ : ∃ lw : Nat, (10 : Int) = (lw : Int) ∧ ∃ hg : Nat, (20 : Int) = (hg : Int) ∧ 1 ≤ lw ∧ lw ≤ hg ∧ hg ≤ 65535 := ⟨10, rfl, 20, rfl, by omega, by omega, by omega⟩
    rw [show Value.int IntKind.u16 10 = Value.int IntKind.u16 (lw : Int) from by rw [← hlw], show Value.int IntKind.u16 20 = Value.int IntKind.u16 (hg : Int) from by rw [← hhg]]
    clear hlw hhg hhl hhl' ha hb ha' hb' hlo hlo'
  case' inr.inr =>
    have ha' : ¬ (lo : Int) = 0 := by omega
    have hb' : ¬ (hi : Int) < (lo : Int) := by omega
    go_upto_region 4 with fail
    obtain ⟨lw, rfl⟩ : ∃ lw : Nat, lw = lo := ⟨lo, rfl⟩
    obtain ⟨hg, rfl⟩ : ∃ hg : Nat, hg = hi := ⟨hi, rfl⟩
    have h3 := hhl
    clear hhl hhl' ha' hb' hlo hlo'
  all_goals
    have HN := hide (new8_yes lw hg h1 h2 (by omega) w)
    have HR := hide (fun W => rnew8_yes lw hg h1 h2 (by omega) W)
    go_wp2_with fail
    refine HN.out.mono ?_
    rintro e w1 ⟨rfl, l1, hT1⟩
    go_wp2_with fail
    refine (HR.out w1).mono ?_
    rintro e w2 ⟨rfl, hw2⟩
    have l2 : Later w1 w2 := by rw [hw2]; exact (Below.refl _ _).alloc (Nat.le_refl _) _
    have hT2 := hT1.later l2
    have L2 := l1.trans l2
    have H123 := hide (And.intro h1 (And.intro h2 h3))
    clear hw2 HN HR l1 l2 hT1 h1 h2 h3
    go_wp2_with fail
    go_loopw [12] (fun i wr => i = .int .i64 0 ∧ wr = w2) (fun i _ => 0)
    case atStart => exact ⟨rfl, rfl⟩
    case round =>
      obtain ⟨rfl, rfl⟩ := hrel
      go_wp2_with fail
      refine bodyPost_ret (v := .tuple #[.pointer (some ⟨w.heap.size, 0, none⟩), .pointer (some ⟨w1.heap.size, 0, none⟩), .bool true]) (by simp [results, Tryd.results7, go_sem]) rfl ?_
      obtain ⟨h1, h2, h3⟩ := H123.out
      exact ⟨L2, lw, hg, _, h1, h2, by omega, rfl, hT2⟩
end Go.Proofs.YtdjncjijgiemgaaDoor
