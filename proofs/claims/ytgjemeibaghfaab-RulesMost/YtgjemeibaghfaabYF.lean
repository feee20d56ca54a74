/- Package rules: the first rule that is wanted. -/
import Derived.Test.YtgjemeibaghfaabYE
namespace Go.Proofs.Ytgjemeibaghfaab
open Go.RowKit Go.Shelf
set_option maxRecDepth 100000
attribute [local go_sem] Oper.semAt_some
set_option linter.unusedVariables false
set_option linter.unusedSimpArgs false

def CT (A B : World) : Prop := A.heap.size ≤ B.heap.size ∧ ∀ (k : Nat) (o : Obj), A.heap[k]? = some o → o.isCells = true → B.heap[k]? = some o
theorem CT.of {A B : World} (h : Later A B) : CT A B := ⟨h.size, fun k o ho _ => later_keep h ho⟩
theorem CT.row {A B : World} {row : Option Nat} (hg : A.grownBy B row) (hr : ∀ r, row = some r → ∃ o : Obj, A.heap[r]? = some o ∧ o.isCells = false) : CT A B :=
  ⟨hg.size, fun k o ho hc => (hg.block k (Array.getElem?_eq_some_iff.1 ho).1 (fun e => by obtain ⟨o', h1, h2⟩ := hr k e.symm; rw [ho] at h1; cases h1; rw [hc] at h2; cases h2)).trans ho⟩
theorem CT.put {A : World} {l : Nat} {o o' : Obj} (h : A.heap[l]? = some o) (hc : o.isCells = false) : CT A (A.putObj l o') :=
  CT.row (grownBy_putObj' A l o') (fun r e => by cases e; exact ⟨o, h, hc⟩)

/-- The first that is wanted; is there one? -/
def fnd (p : Ru → Bool) (l : List Ru) : Ru := (l.find? p).getD zRu
def fdb (p : Ru → Bool) (l : List Ru) : Bool := (l.find? p).isSome
theorem fnd_no {p : Ru → Bool} {l : List Ru} (h : ∀ x ∈ l, p x = false) : fnd p l = zRu ∧ fdb p l = false := by
  have : l.find? p = none := by rw [List.find?_eq_none]; intro x hx; rw [h x hx]; simp
  unfold fnd fdb
  rw [this]
  exact ⟨rfl, rfl⟩
theorem fnd_yes {p : Ru → Bool} {pre : List Ru} {x : Ru} {rest : List Ru} (h : ∀ y ∈ pre, p y = false) (hx : p x = true) : fnd p (pre ++ [x] ++ rest) = x ∧ fdb p (pre ++ [x] ++ rest) = true := by
  have : (pre ++ [x] ++ rest).find? p = some x := by
    rw [List.append_assoc, List.find?_append, show pre.find? p = none from by rw [List.find?_eq_none]; intro y hy; rw [h y hy]; simp]
    simp [hx]
  unfold fnd fdb
  rw [this]
  exact ⟨rfl, rfl⟩

/-- What first keeps while it looks. -/
def PF (rb : Nat) (cv : Value) (p : Ru → Bool) (w : World) (pre : List Ru) (W : World) : Prop :=
  (W.heap[rb]? = some (.cells #[cv] 43 (0, 0)) ∧ W.heap[rb + 1]? = some (.cells (ruc zRu).toArray 30 (0, 0)) ∧ W.heap[rb + 1 + 1]? = some (.cells #[.bool false] 4 (0, 0))) ∧ ∀ x ∈ pre, p x = false
theorem PF.ct {rb : Nat} {cv : Value} {p : Ru → Bool} {w : World} {pre : List Ru} {A B : World} (h : PF rb cv p w pre A) (c : CT A B) : PF rb cv p w pre B :=
  ⟨⟨c.2 _ _ h.1.1 rfl, c.2 _ _ h.1.2.1 rfl, c.2 _ _ h.1.2.2 rfl⟩, h.2⟩
/-- How it leaves when it has found. -/
def PG (rb : Nat) (p : Ru → Bool) (pre : List Ru) (W : World) : Prop :=
  ∃ pre0 x, pre = pre0 ++ [x] ∧ p x = true ∧ (∀ y ∈ pre0, p y = false) ∧ W.heap[rb + 1]? = some (.cells (ruc x).toArray 30 (0, 0)) ∧ W.heap[rb + 1 + 1]? = some (.cells #[.bool true] 4 (0, 0))
theorem PG.ct {rb : Nat} {p : Ru → Bool} {pre : List Ru} {A B : World} (h : PG rb p pre A) (c : CT A B) : PG rb p pre B := by
  obtain ⟨pre0, x, h1, h2, h3, h4, h5⟩ := h
  exact ⟨pre0, x, h1, h2, h3, c.2 _ _ h4 rfl, c.2 _ _ h5 rfl⟩
theorem belowU_b {w : World} {n₀ : Nat} (hn : n₀ ≤ w.heap.size) (W : World) (l : Nat) (o o' : Obj) (hl : w.heap.size ≤ l) (ho : W.heap[l]? = some o) (hc : o.isCells = false) (hw : o.isWalk = false) : Below n₀ W (W.putObj l o') :=
  belowK_b (w := w) hn W l o o' hl ho hc hw

set_option maxHeartbeats 1000000 in
theorem first_end (rb D : Nat) (x : Ru) (t : Bool) (W w : World) (hD : rb + 1 + 1 + 1 ≤ D) (hb : Below w.heap.size w W) (h1 : W.heap[rb + 1]? = some (.cells (ruc x).toArray 30 (0, 0))) (h2 : W.heap[rb + 1 + 1]? = some (.cells #[.bool t] 4 (0, 0))) (hK : W.heap[D]? = some (.deferred (some [])))
    (hrb : w.heap.size ≤ rb) (t0 t1 t2 t3 t6 t7 t8 t9 t10 t11 t12 t13 t14 : Value) :
    bodyPostM Fence.wide 5 Try.prog Try.f17 (fun e w' => e = .returned (.tuple #[.agg (ruc x).toArray, .bool t]) ∧ Later w w') Exit.ret
      { tmps := #[t0, t1, t2, t3, .pointer (some ⟨rb + 1, 0, none⟩), .pointer (some ⟨rb + 1 + 1, 0, none⟩), t6, t7, t8, t9, t10, t11, t12, t13, t14], defers := [{ target := .collected D, args := #[] }] } W := by
  refine ⟨by simp, .inl ⟨_, _, rfl, run_takeDeferred hK, ?_⟩⟩
  have z1 := (CT.put (o' := .deferred none) hK rfl).2 _ _ h1 rfl
  have z2 := (CT.put (o' := .deferred none) hK rfl).2 _ _ h2 rfl
  have k1 := block_cell z1
  have k2 := block_cell z2
  simp only [ruc] at k1
  refine ⟨.tuple #[.agg (ruc x).toArray, .bool t], by simp [results, Try.results17, go_sem, k1, k2, ruc], rfl, hb.trans (belowK_b (w := w) (Nat.le_refl _) W D _ _ (by omega) hK rfl rfl)⟩

set_option maxRecDepth 100000 in
set_option maxHeartbeats 4000000 in
theorem first_any (base cf : Nat) (lb : Array Value) (p : Option Addr) (B : Nat) (ls : List Ru) (q : Ru → Bool) (w : World) (hT : PL base w p ls) (hBl : B < w.heap.size) (hB : w.cell? ⟨B, 0, none⟩ = some (.pointer p))
    (eg : ∀ args w, (callFunc cf args).run Try.prog w = .ok (.enter cf args) w)
    (hcl : ∀ x ∈ ls, ∀ W, Later w W → Calls Try.prog cf (#[.agg (ruc x).toArray] ++ lb) W fun e W' => e = .returned (.bool (q x)) ∧ Later W W') :
    Calls Try.prog 17 #[.func (.func 24) #[] #[.pointer (some ⟨B, 0, none⟩)], .func (.func cf) #[] lb] w fun e w' => e = .returned (.tuple #[.agg (ruc (fnd q ls)).toArray, .bool (fdb q ls)]) ∧ Later w w' := by
  refine (callsIn_wide (n := 5)).1 ?_
  refine callsIn_of_wp_marks Try.func17 rfl trivial ?_ rfl
  simp only [Try.ntmps17, List.size_toArray, List.length_cons, List.length_nil, Nat.reduceAdd, Nat.reduceSub, Array.replicate_succ, Array.replicate_zero, List.push_toArray, List.append_toArray, List.nil_append, List.cons_append]
  have hb4 : Later w (((w.alloc (.cells #[.func (.func cf) #[] lb] 43)).alloc (.cells #[.int .i64 0, .int .u8 0, .int .u32 0, .int .i64 0, .int .u32 0, .int .u16 0, .int .u32 0, .int .u16 0] 30)).alloc (.cells #[.bool false] 4)) := (((Below.refl _ _).alloc (Nat.le_refl _) _).alloc (by simp) _).alloc (by simp <;> omega) _
  have c0 : (((w.alloc (.cells #[.func (.func cf) #[] lb] 43)).alloc (.cells #[.int .i64 0, .int .u8 0, .int .u32 0, .int .i64 0, .int .u32 0, .int .u16 0, .int .u32 0, .int .u16 0] 30)).alloc (.cells #[.bool false] 4)).heap[w.heap.size]? = some (.cells #[.func (.func cf) #[] lb] 43) := (Below.heap_alloc _ _ _ (by simp <;> omega)).trans ((Below.heap_alloc _ _ _ (by simp)).trans (heap_alloc_new w _))
  have c1 : (((w.alloc (.cells #[.func (.func cf) #[] lb] 43)).alloc (.cells #[.int .i64 0, .int .u8 0, .int .u32 0, .int .i64 0, .int .u32 0, .int .u16 0, .int .u32 0, .int .u16 0] 30)).alloc (.cells #[.bool false] 4)).heap[w.heap.size + 1]? = some (.cells #[.int .i64 0, .int .u8 0, .int .u32 0, .int .i64 0, .int .u32 0, .int .u16 0, .int .u32 0, .int .u16 0] 30) := by
    have := heap_alloc_new (w.alloc (.cells #[.func (.func cf) #[] lb] 43)) (.cells #[.int .i64 0, .int .u8 0, .int .u32 0, .int .i64 0, .int .u32 0, .int .u16 0, .int .u32 0, .int .u16 0] 30)
    rw [World.size_alloc] at this
    exact (Below.heap_alloc _ _ _ (by simp)).trans this
  have c2 : (((w.alloc (.cells #[.func (.func cf) #[] lb] 43)).alloc (.cells #[.int .i64 0, .int .u8 0, .int .u32 0, .int .i64 0, .int .u32 0, .int .u16 0, .int .u32 0, .int .u16 0] 30)).alloc (.cells #[.bool false] 4)).heap[w.heap.size + 1 + 1]? = some (.cells #[.bool false] 4) := by
    have := heap_alloc_new ((w.alloc (.cells #[.func (.func cf) #[] lb] 43)).alloc (.cells #[.int .i64 0, .int .u8 0, .int .u32 0, .int .i64 0, .int .u32 0, .int .u16 0, .int .u32 0, .int .u16 0] 30)) (.cells #[.bool false] 4)
    simpa only [World.size_alloc] using this
  have hs4 : (((w.alloc (.cells #[.func (.func cf) #[] lb] 43)).alloc (.cells #[.int .i64 0, .int .u8 0, .int .u32 0, .int .i64 0, .int .u32 0, .int .u16 0, .int .u32 0, .int .u16 0] 30)).alloc (.cells #[.bool false] 4)).heap.size = w.heap.size + 1 + 1 + 1 := by simp
  have HCL := hide hcl
  have HEG := hide eg
  have C0 := hide c0
  have C1 := hide c1
  have C2 := hide c2
  have HS4 := hide hs4
  clear hcl eg c0 c1 c2 hs4
  gi_wp2
  generalize ((w.alloc (.cells #[.func (.func cf) #[] lb] 43)).alloc (.cells #[.int .i64 0, .int .u8 0, .int .u32 0, .int .i64 0, .int .u32 0, .int .u16 0, .int .u32 0, .int .u16 0] 30)).alloc (.cells #[.bool false] 4) = w4 at *
  have hs4 : w4.heap.size = w.heap.size + 1 + 1 + 1 := HS4.out
  refine wpIn_rangeX (w := w4) rfl (by omega) (gf := 24) (lb := #[.pointer (some ⟨B, 0, none⟩)]) rfl trivial (enters_of Try.func24 (by kernel_rfl) rfl)
    (allU_gen 4 (by omega) B base p ls w w4 hT hb4 (by omega) ((hb4.cell hB)))
    (fun h k => h.trans k) (fun W l o o' hl ho hc hw => belowU_b (w := w4) (by omega) W l o o' hl ho hc hw) (fun hA hL => hL.mono (by omega)) (fun _ _ _ _ h _ => h) (fun _ _ _ _ _ _ _ _ _ h => h) (fun _ => rfl)
    (fun pre W => PF w.heap.size (.func (.func cf) #[] lb) q w pre W ∧ Below w.heap.size w W) (fun pre W => PG w.heap.size q pre W ∧ Below w.heap.size w W)
    (OwnFrom.and (fun s A B row hs hg hr => hs.ct (CT.row hg (fun r e => (hr r e).2))) (ownFrom_below (Nat.le_refl _) (by omega)))
    (fun s A B h l => ⟨h.1.ct (CT.of l), h.2.trans (l.mono h.2.size)⟩)
    (OwnFrom.and (fun s A B row hs hg hr => hs.ct (CT.row hg (fun r e => (hr r e).2))) (ownFrom_below (Nat.le_refl _) (by omega)))
    ⟨⟨⟨C0.out, C1.out, C2.out⟩, fun x hx => by cases hx⟩, hb4⟩
    (fun x a' W => ∃ bx : Nat, w.heap.size + 1 + 1 + 1 ≤ bx ∧ W.heap[bx]? = some (.cells #[.int .i64 x.kind, .int .u8 x.proto, .int .u32 x.net, .int .i64 x.bits, .int .u32 x.to, .int .u16 x.port, .int .u32 x.host, .int .u16 x.hp] 30 (0, 0)) ∧ a' = { tmps := #[.func (.func 24) #[] #[.pointer (some ⟨B, 0, none⟩)], .func (.func cf) #[] lb, undef, .pointer (some ⟨w.heap.size, 0, none⟩), .pointer (some ⟨w.heap.size + 1, 0, none⟩), .pointer (some ⟨w.heap.size + 1 + 1, 0, none⟩), .pointer (some ⟨bx, 0, none⟩), undef, .func (.func 24) #[] #[.pointer (some ⟨B, 0, none⟩)], .agg #[.int .i64 x.kind, .int .u8 x.proto, .int .u32 x.net, .int .i64 x.bits, .int .u32 x.to, .int .u16 x.port, .int .u32 x.host, .int .u16 x.hp], undef, undef, undef, undef, undef], defers := [] })
    (fun x a' W l o o' hl ho hc h => by obtain ⟨bx, h1, h2, h3⟩ := h; exact ⟨bx, h1, (CT.put ho hc).2 _ _ h2 rfl, h3⟩) ?assign ?body ?done ?stop
  case assign =>
    rintro l pre x W K hsz _ hX hK
    dsimp only [encU, ruc]
    gi_wp2
    refine hK _ _ ?_ ⟨W.heap.size, by omega, heap_alloc_new _ _, rfl⟩
    exact (Below.refl _ W).alloc (Nat.le_refl _) _
  case body =>
    rintro l pre x a' W ⟨⟨⟨h0, h1, h2⟩, hno⟩, hbW⟩ hX ⟨bx, hbx, hbo, rfl⟩
    have hxl : x ∈ ls := by obtain ⟨rest, e⟩ := hX; rw [← e]; simp
    have hc := (callsIn_wide (n := 2)).2 (HCL.out x hxl W hbW)
    have HC := hide (hc.inRound l)
    clear hc
    have Kb := block_cell hbo
    have K0 := block_cell h0
    gi_wp2
    refine ⟨trivial, ?_⟩
    rw [HEG.out]
    simp only [Oper.uponIn]
    clear Kb K0
    refine ⟨fun _ => by omega, HC.out.mono ?_⟩
    rintro e W1 ⟨rfl, l1⟩
    have hbW1 := hbW.trans (l1.mono hbW.size)
    have g0 := later_keep l1 h0
    have g1 := later_keep l1 h1
    have g2 := later_keep l1 h2
    have gb := later_keep l1 hbo
    have Kb := block_cell gb
    have hk1 : KeepsFrom w4.heap.size W W1 := ⟨l1.size, fun i o hi ho hc => later_keep l1 ho⟩
    cases hq : q x with
    | false =>
      have HQ := hide hq
      clear hq
      gi_wp2
      exact ⟨hk1, l1.mono hbW.size, ⟨⟨g0, g1, g2⟩, fun y hy => (List.mem_append.1 hy).elim (hno y) (fun h => by rw [show y = x from by simpa using h]; exact HQ.out)⟩, hbW1⟩
    | true =>
      have HQ := hide hq
      clear hq
      have K1 := block_cell g1
      have K2 := block_cell g2
      have F1 := block_frozen g1
      have F2 := block_frozen g2
      simp only [ruc] at K1
      gi_wp2
      obtain ⟨V, hV2⟩ : ∃ V, V = putRow W1 (w.heap.size + 1) 0 (ruc x) := ⟨_, rfl⟩
      have hfin : postX w4.heap.size (Below w.heap.size) (fun pre W => PF w.heap.size (.func (.func cf) #[] lb) q w pre W ∧ Below w.heap.size w W) (fun pre W => PG w.heap.size q pre W ∧ Below w.heap.size w W) (pre ++ [x]) W Exit.ret { tmps := #[], defers := [] } (V.setCell ⟨w.heap.size + 1 + 1, 0, none⟩ (.bool true)) := ?_
      · rw [hV2] at hfin
        exact hfin
      have v1 : V.heap[w.heap.size + 1]? = some (.cells (ruc x).toArray 30 (0, 0)) := by rw [hV2]; exact putRow_all (ruc x) g1 rfl
      have hbV : But (fun g => g = w.heap.size + 1 ∨ g = w.heap.size + 1 + 1) W1 V := by rw [hV2]; exact putRow_but (E := fun g => g = w.heap.size + 1 ∨ g = w.heap.size + 1 + 1) (n := w.heap.size + 1) (.inl rfl) (ruc x) 0 W1 W1 (But.refl _ _)
      have hbS := hbV.setCell (p := ⟨w.heap.size + 1 + 1, 0, none⟩) (.inr rfl) (.bool true)
      have hsz1 : w.heap.size ≤ W1.heap.size := hbW1.size
      have hbl := hbS.below hsz1 (fun k hk e => by rcases e with rfl | rfl <;> omega)
      refine ⟨⟨Nat.le_trans l1.size hbS.size, fun i o hi ho hc => ?_⟩, ⟨pre, x, rfl, HQ.out, hno, ?_, ?_⟩, hbW1.trans hbl⟩
      · have := later_keep l1 ho
        exact (hbS.block i (Array.getElem?_eq_some_iff.1 this).1 (fun e => by rcases e with rfl | rfl <;> omega)).trans this
      · exact (Below.heap_setCell V ⟨w.heap.size + 1 + 1, 0, none⟩ _ (w.heap.size + 1) (by simp)).trans v1
      · have v2 : V.heap[w.heap.size + 1 + 1]? = some (.cells #[.bool false] 4 (0, 0)) := by
          rw [hV2]
          exact ((putRow_rb (rb := w.heap.size + 1) (ruc x) W1).block (w.heap.size + 1 + 1) (Array.getElem?_eq_some_iff.1 g2).1 (by omega)).trans g2
        exact heap_set1 v2 0 _
  case done =>
    rintro D xs W hD rfl ⟨⟨⟨h0, h1, h2⟩, hno⟩, hbW⟩ hK
    have la : Later W (W.alloc (.cells #[.int .i64 0, .int .u8 0, .int .u32 0, .int .i64 0, .int .u32 0, .int .u16 0, .int .u32 0, .int .u16 0] 30)) := (Below.refl _ _).alloc (Nat.le_refl _) _
    have g1 := later_keep la h1
    have g2 := later_keep la h2
    have gD := later_keep la hK
    have K1 := block_cell g1
    have K2 := block_cell g2
    have F1 := block_frozen g1
    have F2 := block_frozen g2
    simp only [ruc, zRu] at K1
    gi_wp2
    obtain ⟨V, hV2⟩ : ∃ V, V = putRow (W.alloc (.cells #[.int .i64 0, .int .u8 0, .int .u32 0, .int .i64 0, .int .u32 0, .int .u16 0, .int .u32 0, .int .u16 0] 30)) (w.heap.size + 1) 0 (ruc zRu) := ⟨_, rfl⟩
    have v1 : V.heap[w.heap.size + 1]? = some (.cells (ruc zRu).toArray 30 (0, 0)) := by rw [hV2]; exact putRow_all (ruc zRu) g1 rfl
    have hbV : But (fun g => g = w.heap.size + 1 ∨ g = w.heap.size + 1 + 1) (W.alloc (.cells #[.int .i64 0, .int .u8 0, .int .u32 0, .int .i64 0, .int .u32 0, .int .u16 0, .int .u32 0, .int .u16 0] 30)) V := by rw [hV2]; exact putRow_but (E := fun g => g = w.heap.size + 1 ∨ g = w.heap.size + 1 + 1) (n := w.heap.size + 1) (.inl rfl) (ruc zRu) 0 _ _ (But.refl _ _)
    have v2 : V.heap[w.heap.size + 1 + 1]? = some (.cells #[.bool false] 4 (0, 0)) := by
      rw [hV2]
      exact ((putRow_rb (rb := w.heap.size + 1) (ruc zRu) _).block (w.heap.size + 1 + 1) (Array.getElem?_eq_some_iff.1 g2).1 (by omega)).trans g2
    have hbS := hbV.setCell (p := ⟨w.heap.size + 1 + 1, 0, none⟩) (.inr rfl) (.bool false)
    have hbA : Below w.heap.size w (W.alloc (.cells #[.int .i64 0, .int .u8 0, .int .u32 0, .int .i64 0, .int .u32 0, .int .u16 0, .int .u32 0, .int .u16 0] 30)) := hbW.trans (la.mono hbW.size)
    have hbl := hbA.trans (hbS.below hbA.size (fun k hk e => by rcases e with rfl | rfl <;> omega))
    have s1 : (V.setCell ⟨w.heap.size + 1 + 1, 0, none⟩ (.bool false)).heap[w.heap.size + 1]? = some (.cells (ruc zRu).toArray 30 (0, 0)) := (Below.heap_setCell V ⟨w.heap.size + 1 + 1, 0, none⟩ _ (w.heap.size + 1) (by simp)).trans v1
    have s2 : (V.setCell ⟨w.heap.size + 1 + 1, 0, none⟩ (.bool false)).heap[w.heap.size + 1 + 1]? = some (.cells #[.bool false] 4 (0, 0)) := heap_set1 v2 0 _
    have sD : (V.setCell ⟨w.heap.size + 1 + 1, 0, none⟩ (.bool false)).heap[D]? = some (.deferred (some [])) := (hbS.block D (Array.getElem?_eq_some_iff.1 gD).1 (fun e => by rcases e with rfl | rfl <;> omega)).trans gD
    obtain ⟨n1, n2⟩ := fnd_no hno
    have hfin := first_end w.heap.size D zRu false (V.setCell ⟨w.heap.size + 1 + 1, 0, none⟩ (.bool false)) w (by omega) hbl s1 s2 sD (Nat.le_refl _)
    rw [n1, n2]
    rw [hV2] at hfin
    exact hfin _ _ _ _ _ _ _ _ _ _ _ _ _
  case stop =>
    rintro D pre W hD ⟨rest, hrest⟩ ⟨⟨pre0, x, rfl, hpx, hp0, h1, h2⟩, hbW⟩ hK
    obtain ⟨n1, n2⟩ := fnd_yes (rest := rest) hp0 hpx
    rw [hrest] at n1 n2
    gi_wp2
    rw [n1, n2]
    exact first_end w.heap.size D x true W w (by omega) hbW h1 h2 hK (Nat.le_refl _) _ _ _ _ _ _ _ _ _ _ _ _ _
end Go.Proofs.Ytgjemeibaghfaab
