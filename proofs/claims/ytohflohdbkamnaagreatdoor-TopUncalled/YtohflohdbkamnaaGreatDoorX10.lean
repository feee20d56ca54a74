/- Several texts in one. -/
import Derived.Test.YtohflohdbkamnaaGreatDoorX11
import Derived.Test.YtohflohdbkamnaaGreatDoorCards
import Derived.Test.YtohflohdbkamnaaGreatDoorTie
import Derived.WalkKit
import Derived.ProofKit
import Derived.OpenShut
import Derived.Lib.LaidIn
import Derived.Lib.LaidU8
import Derived.Deep.DeepHandedRow
import Derived.Lib.LaidTab
import Derived.Lib.TrailingZeros
import Derived.SizedLaws
import Derived.Lib.SmallJoins
import Derived.Test.YtohflohdbkamnaaGreatDoorW4
import Derived.Test.YtohflohdbkamnaaGreatDoorVS
import Derived.Deep.Cut
/- Package pool: count, TrailingZeros64, the numbers of a set in order. -/
namespace Go.Proofs.YtohflohdbkamnaaGreatDoor
open Go.RowKit Go.Shelf
set_option maxRecDepth 100000
attribute [local go_sem] Oper.semAt_some
set_option linter.unusedVariables false
set_option linter.unusedSimpArgs false

def cnt (ws : Nat → Nat) : Nat → Nat
  | 0 => 0
  | k + 1 => cnt ws k + Pm.pcn 64 (ws k)
end Go.Proofs.YtohflohdbkamnaaGreatDoor

/- Package pool: TrailingZeros64. -/
namespace Go.Proofs.YtohflohdbkamnaaGreatDoor
open Go.RowKit Go.Shelf
set_option maxRecDepth 100000
attribute [local go_sem] Oper.semAt_some
set_option linter.unusedVariables false
set_option linter.unusedSimpArgs false

/-- The library's table of places. -/
def Dz (w : World) : Prop := ∀ j, j < 64 → w.cell? ⟨1, j, none⟩ = some (.int .u8 (Lib.deBruijn64tab.getD j 0 : Nat))
theorem Dz.pos {w : World} (h : Dz w) : 1 < w.heap.size := World.block_lt_of_cell? w ⟨1, 0, none⟩ (h 0 (by omega))
theorem Dz.below {w w' : World} {n : Nat} (h : Dz w) (hb : Below n w w') (hn : 1 < n) : Dz w' := fun i hi => (hb.cell (p := ⟨1, i, none⟩) hn).trans (h i hi)
theorem Dz.later {w w' : World} (h : Dz w) (l : Later w w') : Dz w' := h.below l h.pos

end Go.Proofs.YtohflohdbkamnaaGreatDoor

/- Two tables that a row lists: that of package ctrl and the library's table of places. -/
namespace Go.Proofs.YtohflohdbkamnaaGreatDoor
open Go.ChangeShapes Go.WideShapes Go.ChangeAt Go.RowKit Go.Lib
set_option maxRecDepth 100000
set_option linter.unusedVariables false

def laid2 : List (String × DataW Unit) := [("math/bits.deBruijn64tab", Rows.laid_math_bits_deBruijn64tab), ("lychgate/ctrl.beginnings", Rows.laid_lychgate_ctrl_beginnings)]
theorem gTabA : Tryz.prog.globalNamed "lychgate/ctrl.beginnings" = some 0 := by kernel_rfl
theorem gTabAType : (Tryz.prog.globals[0]?).map (·.type) = some 367 := by kernel_rfl
theorem cellsTabA : Tryz.prog.cellsOf 367 = 16 := by kernel_rfl
theorem cellsRowA : Tryz.prog.cellsOf 351 = 4 := by kernel_rfl
theorem cellsByte : Tryz.prog.cellsOf 5 = 1 := by kernel_rfl
theorem gTabB : Tryz.prog.globalNamed "math/bits.deBruijn64tab" = some 1 := by kernel_rfl
theorem gTabBType : (Tryz.prog.globals[1]?).map (·.type) = some 394 := by kernel_rfl
theorem cellsTabB : Tryz.prog.cellsOf 394 = 64 := by kernel_rfl
theorem laidTabB : (Rows.laid_math_bits_deBruijn64tab : DataW Unit) = Lib.tabData .u8 (Lib.deBruijn64tab.map (fun n : Nat => (n : Int))) := rfl

theorem list16 {α : Type} {l : List α} (h : l.length = 16) : ∃ a b c d e f g i j k m n o p q r, l = [a, b, c, d, e, f, g, i, j, k, m, n, o, p, q, r] := by
  match l, h with
  | [a, b, c, d, e, f, g, i, j, k, m, n, o, p, q, r], _ => exact ⟨a, b, c, d, e, f, g, i, j, k, m, n, o, p, q, r, rfl⟩

theorem tb_of_laid2 {W : World} (h : laidMetH Tryz.prog laid2 W) : Tb W := by
  have h' : laidMet Tryz.prog laid2 W := h
  have h3 := laidMet.reads h' (n := "lychgate/ctrl.beginnings") (d := Rows.laid_lychgate_ctrl_beginnings) (.tail _ (.head _))
  obtain ⟨g', t', cs, fuel, p, hg', ht', hvar, hd⟩ := h3
  obtain rfl := Option.some.inj (gTabA.symm.trans hg')
  obtain rfl := Option.some.inj (gTabAType.symm.trans ht')
  have hcell := World.var?_cell gTabA hvar
  cases fuel with
  | zero => simp [DataW.trod] at hd
  | succ fuel =>
    simp only [DataW.trod, Tryz.underlying367, cellsTabA, cellsRowA] at hd
    split at hd
    · rename_i hl
      obtain ⟨xs, hm, hx⟩ := Option.map_eq_some_iff.1 hd
      have hxs := congrArg Prod.fst hx
      simp only [Rows.laid_lychgate_ctrl_beginnings, DataW.agg.injEq] at hxs
      have row : ∀ (i : Nat) (zs : List Int), i < 4 → (xs.map (·.1))[i]? = some (Lib.tabData .u8 zs) → (cs.toList.drop (i * 4)).take 4 = zs.map fun z => Value.int .u8 z := by
        intro i zs hi hz
        obtain ⟨b, hb, hf⟩ := Lib.mapM_at hm i i (by simp [hi])
        have hb1 : b.1 = Lib.tabData .u8 zs := by simpa [hb] using hz
        obtain ⟨b1, b2⟩ := b
        simp only at hb1
        subst hb1
        exact Lib.cells_of_tab Tryz.underlying351 Tryz.underlying5 cellsByte cellsRowA hf
      have r0 := row 0 [32, 1, 136, 11] (by omega) (by rw [hxs]; rfl)
      have r1 := row 1 [48, 1, 136, 11] (by omega) (by rw [hxs]; rfl)
      have r2 := row 2 [32, 129, 136, 11] (by omega) (by rw [hxs]; rfl)
      have r3 := row 3 [48, 129, 136, 11] (by omega) (by rw [hxs]; rfl)
      obtain ⟨a, b, c, d, e, f, g, i, j, k, m, n, o, p', q', r, hcs⟩ := list16 (l := cs.toList) (by simp_all)
      rw [hcs] at r0 r1 r2 r3
      simp at r0 r1 r2 r3
      have hcs2 : cs = #[a, b, c, d, e, f, g, i, j, k, m, n, o, p', q', r] := by rw [← hcs]
      obtain ⟨rfl, rfl, rfl, rfl⟩ := r0
      obtain ⟨rfl, rfl, rfl, rfl⟩ := r1
      obtain ⟨rfl, rfl, rfl, rfl⟩ := r2
      obtain ⟨rfl, rfl, rfl, rfl⟩ := r3
      subst hcs2
      intro i hi
      rw [hcell i]
      match i, hi with
      | 0, _ | 1, _ | 2, _ | 3, _ | 4, _ | 5, _ | 6, _ | 7, _ | 8, _ | 9, _ | 10, _ | 11, _ | 12, _ | 13, _ | 14, _ | 15, _ => rfl
      | n + 16, h => exact absurd h (by omega)
    · cases hd

theorem dz_of_laid2 {W : World} (h : laidMetH Tryz.prog laid2 W) : Dz W := by
  have h' : laidMet Tryz.prog laid2 W := h
  have h3 := laidMet.reads h' (n := "math/bits.deBruijn64tab") (d := Rows.laid_math_bits_deBruijn64tab) (.head _)
  obtain ⟨g', t', cs, fuel, p, hg', ht', hvar, hd⟩ := h3
  obtain rfl := Option.some.inj (gTabB.symm.trans hg')
  obtain rfl := Option.some.inj (gTabBType.symm.trans ht')
  have hcell := World.var?_cell gTabB hvar
  rw [laidTabB] at hd
  have hcs := Lib.cells_of_tab Tryz.underlying394 Tryz.underlying5 cellsByte cellsTabB hd
  intro j hj
  have hl : Lib.deBruijn64tab.length = 64 := rfl
  rw [hcell j, ← Array.getElem?_toList, hcs, List.getElem?_map, List.getElem?_map, List.getElem?_eq_getElem (by rw [hl]; exact hj)]
  simp [List.getD, hl, hj]

/-- A world for the witness: the tables hold what their initialisers lay. -/
noncomputable def laidWorld2 (os : Os) : World :=
  let w0 := World.holding Tryz.prog os ⟨#[], #[], []⟩
  let put (h : Array Obj) (g : Nat) (cs : Array Value) : Array Obj := h.modify g fun
    | .cells _ t frozen => .cells cs t frozen
    | o => o
  let h1 := put w0.heap 0 #[.int .u8 32, .int .u8 1, .int .u8 136, .int .u8 11, .int .u8 48, .int .u8 1, .int .u8 136, .int .u8 11, .int .u8 32, .int .u8 129, .int .u8 136, .int .u8 11, .int .u8 48, .int .u8 129, .int .u8 136, .int .u8 11]
  let h2 := put h1 1 (Lib.deBruijn64tab.map fun (z : Nat) => Value.int .u8 (z : Int)).toArray
  { w0 with heap := h2 }
theorem laid_met2 (os : Os) (args : Array Value) : laidMet Tryz.prog laid2 ((laidWorld2 os).forCall (fun _ _ => 0) ⟨#[], args, []⟩).memory :=
  (LaidIn.of_run (l := laid2) [1, 0] 8 (by kernel_rfl) (by kernel_rfl) (by kernel_rfl) (by kernel_rfl)).met
end Go.Proofs.YtohflohdbkamnaaGreatDoor

/- How an argument that is a packet reads. -/
namespace Go.Proofs.YtohflohdbkamnaaGreatDoor
open Go.ChangeShapes Go.WideShapes Go.ChangeAt Go.RowKit Go.Joins
set_option maxRecDepth 100000

/-- A field that is a slice of bytes. -/
theorem open_bytes {H : Type} {enc : TypeId × Value → H} {W : World} {n : Nat} {c : Value} {y : DataW H × List MemPlace} (h : DataW.trod enc Tryz.prog W 0 (fun _ => true) true n 23 [c] = some y) :
    ∃ zs, Mt.By zs ∧ Rd W.heap.size W c zs ∧ ((DataW.weights Tryz.prog 23 y.1).all (· ≤ reachBytes) = true → zs.length ≤ 140737488351232) := by
  obtain ⟨a, l, cp, hc⟩ := slice_form Tryz.underlying23 h
  cases hc
  rcases open_ints Tryz.underlying23 Tryz.underlying5 (by kernel_rfl) h with ⟨hcs, _⟩ | ⟨x, l', c', zs, hcs, _, hl, hm, hz, hx, hcell, hwz⟩
  · simp at hcs
    obtain ⟨rfl, rfl, rfl⟩ := hcs
    exact ⟨[], Mt.By.nil, .inl ⟨_, _, rfl, rfl, by omega, fun _ => rfl⟩, fun _ => by simp⟩
  · simp at hcs
    obtain ⟨rfl, rfl, rfl⟩ := hcs
    rw [if_pos rfl] at hz
    obtain ⟨ys, hB, hI⟩ := rd_of_row x l cp zs hl (by simpa [maxLen] using hm) hz hcell hwz W.heap.size (fun h => row_block x zs hcell (by omega))
    refine ⟨ys, hB, hI, fun hw => ?_⟩
    obtain ⟨a', cap', e', h1, _⟩ := hI.slice
    cases e'
    subst hx
    have hb : Tryz.prog.bytesOf 5 = 1 := by kernel_rfl
    simp only [DataW.weights, Tryz.underlying23, List.all_cons, Bool.and_eq_true, hb, reachBytes] at hw
    have h2 := hw.1
    simp [lits] at h2
    omega

end Go.Proofs.YtohflohdbkamnaaGreatDoor

/- Package ipv4's read: what it hands back of bytes; a refusal is caught. -/
namespace Go.Proofs.YtohflohdbkamnaaGreatDoor
open Go.RowKit Go.Shelf
set_option maxRecDepth 100000
set_option linter.unusedVariables false
set_option linter.unusedSimpArgs false

/-- A packet of nothing. -/
abbrev zc : List Value := [.int .u8 0, .int .u16 0, .bool false, .int .u8 0, .int .u8 0, .int .u32 0, .int .u32 0, .slice none 0 0, .slice none 0 0]

theorem catch_idle (pb eb : Nat) (w : World) :
    CallsD Tryz.prog 121 #[.pointer (some ⟨pb, 0, none⟩), .pointer (some ⟨eb, 0, none⟩)] .returning w fun e u' w' => e = .returned (.tuple #[]) ∧ u' = .returning ∧ w' = w := by
  refine callsD_of_wpS Tryz.func121 rfl fun c₀ cs hu => ?_
  apply wpS_seq
  apply wpS_region
  simp [wpOpsS, go_sem, recoverD, hu, Tryz.ntmps121, Exit.thenS]
  refine wpS_of_wp ?_
  go_wp2
  cases c₀
  simp_all [bodyPostS, results, Tryz.results121]

theorem ta_yes (c : Int) (w : World) : (Instr.typeAssert (rfs c) 20 232 true).run Tryz.prog w = .ok (.tuple #[.agg #[.int .i64 c], .bool true]) w := by kernel_rfl

set_option maxHeartbeats 1000000 in
theorem catch_refused (n pb eb : Nat) (c x : Int) (cur : Array Value) (w : World) (hp : w.heap[pb]? = some (.cells cur 78 (0, 0))) (hs : cur.size = 9) (he : w.heap[eb]? = some (.cells #[.int .i64 x] 38 (0, 0))) (hpe : pb ≠ eb) (hn : n ≤ pb) (hn2 : n ≤ eb) :
    CallsD Tryz.prog 121 #[.pointer (some ⟨pb, 0, none⟩), .pointer (some ⟨eb, 0, none⟩)] (.panicking (rfp c)) w fun e u' w' =>
      e = .returned (.tuple #[]) ∧ u' = .panicking [{ v := rfs c, recovered := true }] ∧ w'.heap[pb]? = some (.cells zc.toArray 78 (0, 0)) ∧ w'.heap[eb]? = some (.cells #[.int .i64 c] 38 (0, 0)) ∧ Below n w w' := by
  have hpl := (Array.getElem?_eq_some_iff.1 hp).1
  have hel := (Array.getElem?_eq_some_iff.1 he).1
  refine callsD_of_wpS Tryz.func121 rfl fun c₀ cs hu => ?_
  apply wpS_seq
  apply wpS_region
  simp [wpOpsS, go_sem, recoverD, hu, Tryz.ntmps121, Exit.thenS]
  simp only [Array.replicate_succ, Array.replicate_zero, List.push_toArray, List.append_toArray, List.nil_append, List.cons_append, List.setIfInBounds_toArray, List.set_cons_zero, List.set_cons_succ]
  have hta := ta_yes c
  refine wpS_of_wp ?_
  go_wp2
  have hb0 : Later w (w.alloc (.cells #[.int .i64 c] 232)) := (Below.refl _ _).alloc (Nat.le_refl _) _
  have q3 : (w.alloc (.cells #[.int .i64 c] 232)).cell? ⟨w.heap.size, 0, none⟩ = some (.int .i64 c) := cell_new w _ _ 0
  have hp0 := (hb0.block pb hpl).trans hp
  have he0 := (hb0.block eb hel).trans he
  have hwp : w.heap.size ≠ pb := by omega
  have hwe : w.heap.size ≠ eb := by omega
  have hpw : ¬ pb = w.heap.size := by omega
  have hew : ¬ eb = w.heap.size := by omega
  generalize w.alloc (.cells #[.int .i64 c] 232) = W0 at *
  have k6 : ∀ j, W0.cell? ⟨pb, j, none⟩ = cur[j]? := block_cell hp0
  have f6 : ∀ j, W0.frozen? ⟨pb, j, none⟩ = false := block_frozen hp0
  have k7 : ∀ j, W0.cell? ⟨eb, j, none⟩ = #[Value.int .i64 x][j]? := block_cell he0
  have f7 : ∀ j, W0.frozen? ⟨eb, j, none⟩ = false := block_frozen he0
  go_region
  all_goals
    generalize hV7 : ((((((((W0.setCell ⟨pb, 0, none⟩ _).setCell ⟨pb, 1, none⟩ _).setCell ⟨pb, 2, none⟩ _).setCell ⟨pb, 3, none⟩ _).setCell ⟨pb, 4, none⟩ _).setCell ⟨pb, 5, none⟩ _).setCell ⟨pb, 6, none⟩ _).setCell ⟨pb, 7, none⟩ _).setCell ⟨pb, 8, none⟩ _ = V7
    have hV8 : V7 = putRow W0 pb 0 zc := hV7.symm
    have hbp : But (fun b => b = pb) W0 V7 := by rw [hV8]; exact putRow_but (E := fun b => b = pb) (n := pb) rfl zc 0 W0 W0 (But.refl _ _)
    have hP := putRow_all zc hp0 hs
    rw [← hV8] at hP
    clear hV7 hV8
    have hE := heap_set1 ((hbp.block eb (Nat.lt_of_lt_of_le hel hb0.size) (fun e => hpe e.symm)).trans he0) 0 (.int .i64 c)
    have hP2 := (Below.heap_setCell V7 ⟨eb, 0, none⟩ (.int .i64 c) pb hpe).trans hP
    have hB2 : Below n w ((V7.setCell ⟨eb, 0, none⟩ (.int .i64 c)).drew) := (((hb0.mono (by omega)).trans (hbp.below (Nat.le_trans (Nat.le_trans hn (Nat.le_of_lt hpl)) hb0.size) (fun k h e => by omega))).setCell (p := ⟨eb, 0, none⟩) hn2 _).drew
    refine ⟨rfl, _, rfl, .tuple #[], by simp [results, Tryz.results121], rfl, rfl, hP2, hE, hB2⟩

abbrev dfr (pb : Nat) : List Deferred := [{ target := .fn (.func 121) #[.pointer (some ⟨pb, 0, none⟩), .pointer (some ⟨pb + 1, 0, none⟩)], args := #[] }]

theorem res_read (tm : Array Value) (pb : Nat) (c : Int) (v0 v1 v2 v3 v4 v5 v6 v7 v8 : Value) (w : World) (h4 : tm[4]? = some (.pointer (some ⟨pb, 0, none⟩))) (h5 : tm[5]? = some (.pointer (some ⟨pb + 1, 0, none⟩)))
    (hp : w.heap[pb]? = some (.cells #[v0, v1, v2, v3, v4, v5, v6, v7, v8] 78 (0, 0))) (he : w.heap[pb + 1]? = some (.cells #[.int .i64 c] 38 (0, 0))) :
    (results Tryz.f78 tm).run Tryz.prog w = .ok (.tuple #[.agg #[v0, v1, v2, v3, v4, v5, v6, v7, v8], .int .i64 c]) w := by
  have kP := block_cell hp
  have kE := block_cell he
  simp [results, Tryz.results78, go_sem, h4, h5, kP, kE]

theorem door_refused {R : Ending → World → Prop} (tm : Array Value) (n pb : Nat) (c x : Int) (cur : Array Value) (w : World) (hp : w.heap[pb]? = some (.cells cur 78 (0, 0))) (hs : cur.size = 9) (he : w.heap[pb + 1]? = some (.cells #[.int .i64 x] 38 (0, 0))) (hn : n ≤ pb)
    (h4 : tm[4]? = some (.pointer (some ⟨pb, 0, none⟩))) (h5 : tm[5]? = some (.pointer (some ⟨pb + 1, 0, none⟩)))
    (hR : ∀ w', Below n w w' → R (.returned (.tuple #[.agg zc.toArray, .int .i64 c])) w') :
    bodyPostD Tryz.prog Tryz.f78 R (.panic (rfp c)) { tmps := tm, defers := dfr pb } w := by
  refine leaves_cons (f := 121) (args := #[.pointer (some ⟨pb, 0, none⟩), .pointer (some ⟨pb + 1, 0, none⟩)]) (by simp) (by simp [go_sem]) ?_
  refine (catch_refused n pb (pb + 1) c x cur w hp hs he (by omega) hn (by omega)).mono ?_
  rintro e u' w'' ⟨rfl, rfl, hP, hE, hb⟩
  exact ⟨_, res_read tm pb c _ _ _ _ _ _ _ _ _ w'' h4 h5 hP hE, hR w'' hb⟩

theorem door_idle {R : Ending → World → Prop} (tm : Array Value) (pb : Nat) (c : Int) (v0 v1 v2 v3 v4 v5 v6 v7 v8 : Value) (w : World)
    (hp : w.heap[pb]? = some (.cells #[v0, v1, v2, v3, v4, v5, v6, v7, v8] 78 (0, 0))) (he : w.heap[pb + 1]? = some (.cells #[.int .i64 c] 38 (0, 0)))
    (h4 : tm[4]? = some (.pointer (some ⟨pb, 0, none⟩))) (h5 : tm[5]? = some (.pointer (some ⟨pb + 1, 0, none⟩)))
    (hR : R (.returned (.tuple #[.agg #[v0, v1, v2, v3, v4, v5, v6, v7, v8], .int .i64 c])) w) :
    bodyPostD Tryz.prog Tryz.f78 R .ret { tmps := tm, defers := dfr pb } w := by
  refine leaves_cons (f := 121) (args := #[.pointer (some ⟨pb, 0, none⟩), .pointer (some ⟨pb + 1, 0, none⟩)]) (by simp) (by simp [go_sem]) ?_
  refine (catch_idle pb (pb + 1) w).mono ?_
  rintro e u' w'' ⟨rfl, rfl, rfl⟩
  exact ⟨_, res_read tm pb c _ _ _ _ _ _ _ _ _ w'' h4 h5 hp he, hR⟩

/-- How many bytes in all; what is wrong. -/
def ral (q : Bool) (zs : List Int) : Int := if q then min (wat zs 2) zs.length else wat zs 2
def rde (q : Bool) (zs : List Int) : Int :=
  if msr zs ≠ 0 then msr zs else if (zs.length : Int) < ral q zs then 3 else if chk zs ≠ 0 then chk zs else if q = true ∧ ral q zs - hl4 zs < 8 then 3 else 0

set_option maxHeartbeats 4000000 in
theorem read_any (q : Bool) (sv : Value) (zs : List Int) (w : World) (hB : Mt.By zs) (hl : zs.length ≤ 225000000000000) (hI : Rd w.heap.size w sv zs) :
    Calls Tryz.prog 78 #[sv, .bool q] w fun e w' => Below w.heap.size w w' ∧
      ((rde q zs ≠ 0 ∧ e = .returned (.tuple #[.agg zc.toArray, .int .i64 (rde q zs)])) ∨
       (rde q zs = 0 ∧ ∃ so sd, e = .returned (.tuple #[pkt zs so sd, .int .i64 0]) ∧ Ow w.heap.size w' so ((zs.take (hl4 zs).toNat).drop 20) ∧ Ow w.heap.size w' sd ((zs.take (ral q zs).toNat).drop (hl4 zs).toNat))) := by
  have hmf : ∀ (fn : Fn) (first cap : Array Value) (w : World), (Instr.makeFunc fn first cap).run Tryz.prog w = .ok (.func fn first cap) w := fun _ _ _ _ => rfl
  obtain ⟨a, cap, rfl, hl1, hm1⟩ := hI.slice
  have HM : Hid (rde q zs = if msr zs ≠ 0 then msr zs else if (zs.length : Int) < ral q zs then 3 else if chk zs ≠ 0 then chk zs else if q = true ∧ ral q zs - hl4 zs < 8 then 3 else 0) := rfl
  generalize rde q zs = m at *
  go_enter_defers Tryz.func78, Tryz.ntmps78
  go_wp2_with fail
  have a1 := heap_alloc_new w (.cells zc.toArray 78)
  have s1 : (w.alloc (.cells zc.toArray 78)).heap.size = w.heap.size + 1 := by simp
  have hb1 : Below w.heap.size w (w.alloc (.cells zc.toArray 78)) := (Below.refl _ _).alloc (Nat.le_refl _) _
  generalize w.alloc (.cells zc.toArray 78) = W1 at *
  have a2 := heap_alloc_new W1 (.cells #[.int .i64 0] 38)
  rw [s1] at a2
  have l2 : Later W1 (W1.alloc (.cells #[.int .i64 0] 38)) := (Below.refl _ _).alloc (Nat.le_refl _) _
  have a3 := (l2.block _ (by omega)).trans a1
  have s2 : (W1.alloc (.cells #[.int .i64 0] 38)).heap.size = w.heap.size + 1 + 1 := by simp [s1]
  generalize W1.alloc (.cells #[.int .i64 0] 38) = W2 at *
  have a4 := heap_alloc_new W2 (.cells #[.int .i64 0, .int .i64 0, .slice a zs.length cap] 236)
  rw [s2] at a4
  have l3 : Later W2 (W2.alloc (.cells #[.int .i64 0, .int .i64 0, .slice a zs.length cap] 236)) := (Below.refl _ _).alloc (Nat.le_refl _) _
  have a5 := (l3.block _ (by omega)).trans a2
  have a6 := (l3.block _ (by omega)).trans a3
  have s3 : (W2.alloc (.cells #[.int .i64 0, .int .i64 0, .slice a zs.length cap] 236)).heap.size = w.heap.size + 1 + 1 + 1 := by simp [s2]
  generalize W2.alloc (.cells #[.int .i64 0, .int .i64 0, .slice a zs.length cap] 236) = W3 at *
  have hb3 := (hb1.trans (l2.mono (by omega))).trans (l3.mono (by omega))
  clear a1 a2 a3 l2 l3 hb1 s1 s2
  refine (measure_any w.heap.size (w.heap.size + 1 + 1) 0 0 _ zs W3 hB hl (hI.below hb3) (by omega) (block_cell a4 0) (block_cell a4 1) (block_cell a4 2) (block_frozen a4 0) (block_frozen a4 1)).mono ?_
  rintro e w4 ⟨hb4, ⟨h1, rfl⟩ | ⟨h1, rfl, k0, k1, k2, f1⟩⟩
  · have := HM.out
    rw [if_pos h1] at this
    subst this
    exact door_refused _ w.heap.size w.heap.size _ 0 _ w4 ((hb4.block _ (by omega)).trans a6) rfl ((hb4.block _ (by omega)).trans a5) (Nat.le_refl _) rfl rfl (fun w' hb' => ⟨(hb3.trans (hb4.mono (by omega))).trans hb', .inl ⟨h1, rfl⟩⟩)
  have hfit : 20 ≤ hl4 zs ∧ hl4 zs ≤ zs.length ∧ hl4 zs ≤ wat zs 2 ∧ 20 ≤ zs.length := by
    unfold msr at h1
    split at h1
    · omega
    · split at h1
      · omega
      · split at h1
        · omega
        · split at h1
          · omega
          · split at h1 <;> omega
  have hn2 := wat_bd hB 2
  cases q
  · go_wp2_with fail
    by_cases h2 : (zs.length : Int) < wat zs 2
    · rw [show decide ((zs.length : Int) < wat zs 2) = true from by simpa using h2]
      refine (refuse_yes 3 _).mono ?_
      rintro e w' ⟨rfl, rfl⟩
      have := HM.out
      rw [if_neg (by simp [h1]), if_pos (by simpa [ral] using h2)] at this
      subst this
      exact door_refused _ w.heap.size w.heap.size _ 0 _ w4 ((hb4.block _ (by omega)).trans a6) rfl ((hb4.block _ (by omega)).trans a5) (Nat.le_refl _) rfl rfl (fun w' hb' => ⟨(hb3.trans (hb4.mono (by omega))).trans hb', .inl ⟨by omega, rfl⟩⟩)
    rw [show decide ((zs.length : Int) < wat zs 2) = false from by simpa using h2]
    refine (refuse_no 3 _).mono ?_
    rintro e w' ⟨rfl, rfl⟩
    have hb5 := hb4
    have K0 := k0
    have K1 := k1
    have K2 := k2
    clear hb4 k0 k1 k2
    have hz5 := hb5.size
    go_wp2_with fail
    refine (check_any (w.heap.size + 1 + 1) _ zs w4 hB hl ((hI.below (hb3.trans (hb5.mono (by omega)))).mono (by omega)) hfit.1 hfit.2.1 K0 K2).mono ?_
    rintro e w6 ⟨l6, ⟨h3, rfl⟩ | ⟨h3, rfl⟩⟩
    · have := HM.out
      rw [if_neg (by simp [h1]), if_neg (by simp [ral]; omega), if_pos h3] at this
      subst this
      exact door_refused _ w.heap.size w.heap.size _ 0 _ w6 ((l6.block _ (by omega)).trans ((hb5.block _ (by omega)).trans a6)) rfl ((l6.block _ (by omega)).trans ((hb5.block _ (by omega)).trans a5)) (Nat.le_refl _) rfl rfl (fun w' hb' => ⟨((hb3.trans (hb5.mono (by omega))).trans (l6.mono (by omega))).trans hb', .inl ⟨h3, rfl⟩⟩)
    obtain ⟨k, hk⟩ := Int.eq_ofNat_of_zero_le (show 0 ≤ hl4 zs by omega)
    obtain ⟨n, hn⟩ := Int.eq_ofNat_of_zero_le (show 0 ≤ wat zs 2 by omega)
    rw [hk] at K0
    rw [hn] at K1
    have c6 := l6.cell K0
    have d6 := l6.cell K1
    have e6 := l6.cell K2
    have p6 := (l6.block _ (by omega)).trans ((hb5.block _ (by omega)).trans a6)
    have q6 := (l6.block _ (by omega)).trans ((hb5.block _ (by omega)).trans a5)
    have hb6 := hb5.trans (l6.mono (by omega))
    have HK := hide hk
    have HN := hide hn
    have hkn : 20 ≤ k ∧ k ≤ n ∧ n ≤ zs.length ∧ n ≤ 65535 := by omega
    clear hk hn
    go_wp2_with fail
    refine (packet_any (w.heap.size + 1 + 1) _ zs k n w6 hB hl ((hI.below (hb3.trans (hb6.mono (by omega)))).mono (Nat.le_trans hb3.size hb6.size)) hkn.1 hkn.2.1 hkn.2.2.1 hkn.2.2.2 c6 d6 e6).mono ?_
    rintro e w7 ⟨so, sd, rfl, hOo, hOd, l7⟩
    have p7 := (l7.block _ (Array.getElem?_eq_some_iff.1 p6).1).trans p6
    have q7 := (l7.block _ (Array.getElem?_eq_some_iff.1 q6).1).trans q6
    have hb7 := hb6.trans (l7.mono (Nat.le_trans (by omega) hb6.size))
    obtain ⟨aso, cso, rfl, _, _⟩ := hOo.slice
    obtain ⟨asd, csd, rfl, _, _⟩ := hOd.slice
    have hlo : ((zs.take k).drop 20).length = min k zs.length - 20 := by simp
    have hld : ((zs.take n).drop k).length = n - k := by simp; omega
    rw [hlo] at hOo ⊢
    rw [hld] at hOd ⊢
    clear hlo hld
    have P7 := block_cell p7
    have F7 := block_frozen p7
    unfold pkt
    go_wp2_with fail
    clear P7 F7
    generalize hV8 : ((((((((w7.setCell ⟨w.heap.size, 0, none⟩ _).setCell ⟨w.heap.size, 1, none⟩ _).setCell ⟨w.heap.size, 2, none⟩ _).setCell ⟨w.heap.size, 3, none⟩ _).setCell ⟨w.heap.size, 4, none⟩ _).setCell ⟨w.heap.size, 5, none⟩ _).setCell ⟨w.heap.size, 6, none⟩ _).setCell ⟨w.heap.size, 7, none⟩ _).setCell ⟨w.heap.size, 8, none⟩ _ = V8
    have hV9 : V8 = putRow w7 w.heap.size 0 [.int .u8 (zs[1]?.getD 0), .int .u16 (wat zs 4), .bool (decide (16384 ≤ wat zs 6 % 32768)), .int .u8 (zs[8]?.getD 0), .int .u8 (zs[9]?.getD 0), .int .u32 (wat4 zs 12), .int .u32 (wat4 zs 16), .slice aso (min k zs.length - 20) cso, .slice asd (n - k) csd] := hV8.symm
    have hb8 : But (fun b => b = w.heap.size) w7 V8 := by rw [hV9]; exact putRow_but (E := fun b => b = w.heap.size) (n := w.heap.size) rfl _ _ _ _ (But.refl _ _)
    have p8 := putRow_all [.int .u8 (zs[1]?.getD 0), .int .u16 (wat zs 4), .bool (decide (16384 ≤ wat zs 6 % 32768)), .int .u8 (zs[8]?.getD 0), .int .u8 (zs[9]?.getD 0), .int .u32 (wat4 zs 12), .int .u32 (wat4 zs 16), .slice aso (min k zs.length - 20) cso, .slice asd (n - k) csd] p7 rfl
    rw [← hV9] at p8
    clear hV8 hV9
    have q8 := (hb8.block _ (Array.getElem?_eq_some_iff.1 q7).1 (by omega)).trans q7
    have P8 := block_cell p8
    have F8 := block_frozen p8
    have E8 := block_cell q8
    have G8 := block_frozen q8
    have hs7 : w.heap.size ≤ w7.heap.size := Nat.le_trans hb3.size hb7.size
    have hbW8 := (hb3.trans (hb7.mono (by omega))).trans (hb8.below hs7 (fun j h e => by omega))
    have hOo8 := hOo.but hb8 (fun b h e => by have := hb6.size; omega)
    have hOd8 := hOd.but hb8 (fun b h e => by have := hb6.size; omega)
    refine (refuse_no 3 _).mono ?_
    rintro e w' ⟨rfl, rfl⟩
    go_wp2_with fail
    generalize hV9 : ((((((((V8.setCell ⟨w.heap.size, 0, none⟩ _).setCell ⟨w.heap.size, 1, none⟩ _).setCell ⟨w.heap.size, 2, none⟩ _).setCell ⟨w.heap.size, 3, none⟩ _).setCell ⟨w.heap.size, 4, none⟩ _).setCell ⟨w.heap.size, 5, none⟩ _).setCell ⟨w.heap.size, 6, none⟩ _).setCell ⟨w.heap.size, 7, none⟩ _).setCell ⟨w.heap.size, 8, none⟩ _ = V9
    have hV10 : V9 = putRow V8 w.heap.size 0 [.int .u8 (zs[1]?.getD 0), .int .u16 (wat zs 4), .bool (decide (16384 ≤ wat zs 6 % 32768)), .int .u8 (zs[8]?.getD 0), .int .u8 (zs[9]?.getD 0), .int .u32 (wat4 zs 12), .int .u32 (wat4 zs 16), .slice aso (min k zs.length - 20) cso, .slice asd (n - k) csd] := hV9.symm
    have hb9 : But (fun b => b = w.heap.size) V8 V9 := by rw [hV10]; exact putRow_but (E := fun b => b = w.heap.size) (n := w.heap.size) rfl _ _ _ _ (But.refl _ _)
    have p9 := putRow_all [.int .u8 (zs[1]?.getD 0), .int .u16 (wat zs 4), .bool (decide (16384 ≤ wat zs 6 % 32768)), .int .u8 (zs[8]?.getD 0), .int .u8 (zs[9]?.getD 0), .int .u32 (wat4 zs 12), .int .u32 (wat4 zs 16), .slice aso (min k zs.length - 20) cso, .slice asd (n - k) csd] p8 rfl
    rw [← hV10] at p9
    clear hV9 hV10
    have q9 := (hb9.block _ (Array.getElem?_eq_some_iff.1 q8).1 (by omega)).trans q8
    have q10 := heap_set1 q9 0 (.int .i64 0)
    have p10 := (Below.heap_setCell V9 ⟨w.heap.size + 1, 0, none⟩ (.int .i64 0) w.heap.size (by simp)).trans p9
    have hs8 : w.heap.size ≤ V8.heap.size := Nat.le_trans hs7 hb8.size
    have hb10 : Below w.heap.size w (V9.setCell ⟨w.heap.size + 1, 0, none⟩ (.int .i64 0)) := (hbW8.trans (hb9.below hs8 (fun j h e => by omega))).setCell (p := ⟨w.heap.size + 1, 0, none⟩) (Nat.le_succ _) _
    have hbb : But (fun b => b = w.heap.size ∨ b = w.heap.size + 1) V8 (V9.setCell ⟨w.heap.size + 1, 0, none⟩ (.int .i64 0)) := But.setCell (⟨hb9.os, hb9.tape, hb9.output, hb9.size, fun j hj he => hb9.block j hj (fun e => he (.inl e))⟩) (.inr rfl) _
    have := HM.out
    rw [if_neg (by simp [h1]), if_neg (by simp [ral]; omega), if_neg (by simp [h3]), if_neg (by simp)] at this
    refine door_idle _ w.heap.size 0 _ _ _ _ _ _ _ _ _ _ p10 q10 rfl rfl ⟨hb10, .inr ⟨this, _, _, rfl, ?_, ?_⟩⟩
    · rw [HK.out]
      exact (hOo8.but hbb (fun b h e => by have := hb6.size; omega)).mono (Nat.le_trans hb3.size hb6.size)
    · rw [HK.out, show ral false zs = (n : Int) from by simp [ral]; exact HN.out]
      exact (hOd8.but hbb (fun b h e => by have := hb6.size; omega)).mono (Nat.le_trans hb3.size hb6.size)
  · by_cases hmn : (zs.length : Int) < wat zs 2
    · go_wp2_with fail
      have hb5 : Below (w.heap.size + 1 + 1) W3 (w4.setCell ⟨w.heap.size + 1 + 1, 1, none⟩ (.int .i64 (zs.length : Int))) := hb4.setCell (p := ⟨w.heap.size + 1 + 1, 1, none⟩) (Nat.le_refl _) _
      have K0 : (w4.setCell ⟨w.heap.size + 1 + 1, 1, none⟩ (.int .i64 (zs.length : Int))).cell? ⟨w.heap.size + 1 + 1, 0, none⟩ = some (.int .i64 (hl4 zs)) := (World.cell?_setCell_other _ _ _ _ (by simp)).trans k0
      have K1 : (w4.setCell ⟨w.heap.size + 1 + 1, 1, none⟩ (.int .i64 (zs.length : Int))).cell? ⟨w.heap.size + 1 + 1, 1, none⟩ = some (.int .i64 (zs.length : Int)) := World.cell?_setCell_same _ _ _ k1
      have K2 : (w4.setCell ⟨w.heap.size + 1 + 1, 1, none⟩ (.int .i64 (zs.length : Int))).cell? ⟨w.heap.size + 1 + 1, 2, none⟩ = some (.slice a zs.length cap) := (World.cell?_setCell_other _ _ _ _ (by simp)).trans k2
      generalize w4.setCell ⟨w.heap.size + 1 + 1, 1, none⟩ (.int .i64 (zs.length : Int)) = W5 at *
      clear hb4 k0 k1 k2
      refine (refuse_no 3 _).mono ?_
      rintro e w' ⟨rfl, rfl⟩
      have hz5 := hb5.size
      go_wp2_with fail
      refine (check_any (w.heap.size + 1 + 1) _ zs W5 hB hl ((hI.below (hb3.trans (hb5.mono (by omega)))).mono (by omega)) hfit.1 hfit.2.1 K0 K2).mono ?_
      rintro e w6 ⟨l6, ⟨h3, rfl⟩ | ⟨h3, rfl⟩⟩
      · have := HM.out
        rw [if_neg (by simp [h1]), if_neg (by simp [ral]; omega), if_pos h3] at this
        subst this
        exact door_refused _ w.heap.size w.heap.size _ 0 _ w6 ((l6.block _ (by omega)).trans ((hb5.block _ (by omega)).trans a6)) rfl ((l6.block _ (by omega)).trans ((hb5.block _ (by omega)).trans a5)) (Nat.le_refl _) rfl rfl (fun w' hb' => ⟨((hb3.trans (hb5.mono (by omega))).trans (l6.mono (by omega))).trans hb', .inl ⟨h3, rfl⟩⟩)
      obtain ⟨k, hk⟩ := Int.eq_ofNat_of_zero_le (show 0 ≤ hl4 zs by omega)
      obtain ⟨n, hn⟩ := Int.eq_ofNat_of_zero_le (show 0 ≤ (zs.length : Int) by omega)
      rw [hk] at K0
      rw [hn] at K1
      have c6 := l6.cell K0
      have d6 := l6.cell K1
      have e6 := l6.cell K2
      have p6 := (l6.block _ (by omega)).trans ((hb5.block _ (by omega)).trans a6)
      have q6 := (l6.block _ (by omega)).trans ((hb5.block _ (by omega)).trans a5)
      have hb6 := hb5.trans (l6.mono (by omega))
      have HK := hide hk
      have HN := hide hn
      have hkn : 20 ≤ k ∧ k ≤ n ∧ n ≤ zs.length ∧ n ≤ 65535 := by omega
      clear hk hn
      go_wp2_with fail
      refine (packet_any (w.heap.size + 1 + 1) _ zs k n w6 hB hl ((hI.below (hb3.trans (hb6.mono (by omega)))).mono (Nat.le_trans hb3.size hb6.size)) hkn.1 hkn.2.1 hkn.2.2.1 hkn.2.2.2 c6 d6 e6).mono ?_
      rintro e w7 ⟨so, sd, rfl, hOo, hOd, l7⟩
      have p7 := (l7.block _ (Array.getElem?_eq_some_iff.1 p6).1).trans p6
      have q7 := (l7.block _ (Array.getElem?_eq_some_iff.1 q6).1).trans q6
      have hb7 := hb6.trans (l7.mono (Nat.le_trans (by omega) hb6.size))
      obtain ⟨aso, cso, rfl, _, _⟩ := hOo.slice
      obtain ⟨asd, csd, rfl, _, _⟩ := hOd.slice
      have hlo : ((zs.take k).drop 20).length = min k zs.length - 20 := by simp
      have hld : ((zs.take n).drop k).length = n - k := by simp; omega
      rw [hlo] at hOo ⊢
      rw [hld] at hOd ⊢
      clear hlo hld
      have P7 := block_cell p7
      have F7 := block_frozen p7
      unfold pkt
      go_wp2_with fail
      clear P7 F7
      generalize hV8 : ((((((((w7.setCell ⟨w.heap.size, 0, none⟩ _).setCell ⟨w.heap.size, 1, none⟩ _).setCell ⟨w.heap.size, 2, none⟩ _).setCell ⟨w.heap.size, 3, none⟩ _).setCell ⟨w.heap.size, 4, none⟩ _).setCell ⟨w.heap.size, 5, none⟩ _).setCell ⟨w.heap.size, 6, none⟩ _).setCell ⟨w.heap.size, 7, none⟩ _).setCell ⟨w.heap.size, 8, none⟩ _ = V8
      have hV9 : V8 = putRow w7 w.heap.size 0 [.int .u8 (zs[1]?.getD 0), .int .u16 (wat zs 4), .bool (decide (16384 ≤ wat zs 6 % 32768)), .int .u8 (zs[8]?.getD 0), .int .u8 (zs[9]?.getD 0), .int .u32 (wat4 zs 12), .int .u32 (wat4 zs 16), .slice aso (min k zs.length - 20) cso, .slice asd (n - k) csd] := hV8.symm
      have hb8 : But (fun b => b = w.heap.size) w7 V8 := by rw [hV9]; exact putRow_but (E := fun b => b = w.heap.size) (n := w.heap.size) rfl _ _ _ _ (But.refl _ _)
      have p8 := putRow_all [.int .u8 (zs[1]?.getD 0), .int .u16 (wat zs 4), .bool (decide (16384 ≤ wat zs 6 % 32768)), .int .u8 (zs[8]?.getD 0), .int .u8 (zs[9]?.getD 0), .int .u32 (wat4 zs 12), .int .u32 (wat4 zs 16), .slice aso (min k zs.length - 20) cso, .slice asd (n - k) csd] p7 rfl
      rw [← hV9] at p8
      clear hV8 hV9
      have q8 := (hb8.block _ (Array.getElem?_eq_some_iff.1 q7).1 (by omega)).trans q7
      have P8 := block_cell p8
      have F8 := block_frozen p8
      have E8 := block_cell q8
      have G8 := block_frozen q8
      have hs7 : w.heap.size ≤ w7.heap.size := Nat.le_trans hb3.size hb7.size
      have hbW8 := (hb3.trans (hb7.mono (by omega))).trans (hb8.below hs7 (fun j h e => by omega))
      have hOo8 := hOo.but hb8 (fun b h e => by have := hb6.size; omega)
      have hOd8 := hOd.but hb8 (fun b h e => by have := hb6.size; omega)
      have hw8 : Later w7 w7 := Later.refl _
      by_cases h4 : n - k < 8
      · rw [show decide (((n - k : Nat) : Int) < 8) = true from by simp; omega]
        refine (refuse_yes 3 _).mono ?_
        rintro e w' ⟨rfl, rfl⟩
        have := HM.out
        rw [if_neg (by simp [h1]), if_neg (by simp [ral]; omega), if_neg (by simp [h3]), if_pos ⟨by simp, by have h5 := HK.out; have h6 := HN.out; simp [ral]; omega⟩] at this
        subst this
        exact door_refused _ w.heap.size w.heap.size _ 0 _ V8 p8 rfl q8 (Nat.le_refl _) rfl rfl (fun w' hb' => ⟨hbW8.trans hb', .inl ⟨by omega, rfl⟩⟩)
      rw [show decide (((n - k : Nat) : Int) < 8) = false from by simp; omega]
      refine (refuse_no 3 _).mono ?_
      rintro e w' ⟨rfl, rfl⟩
      go_wp2_with fail
      generalize hV9 : ((((((((V8.setCell ⟨w.heap.size, 0, none⟩ _).setCell ⟨w.heap.size, 1, none⟩ _).setCell ⟨w.heap.size, 2, none⟩ _).setCell ⟨w.heap.size, 3, none⟩ _).setCell ⟨w.heap.size, 4, none⟩ _).setCell ⟨w.heap.size, 5, none⟩ _).setCell ⟨w.heap.size, 6, none⟩ _).setCell ⟨w.heap.size, 7, none⟩ _).setCell ⟨w.heap.size, 8, none⟩ _ = V9
      have hV10 : V9 = putRow V8 w.heap.size 0 [.int .u8 (zs[1]?.getD 0), .int .u16 (wat zs 4), .bool (decide (16384 ≤ wat zs 6 % 32768)), .int .u8 (zs[8]?.getD 0), .int .u8 (zs[9]?.getD 0), .int .u32 (wat4 zs 12), .int .u32 (wat4 zs 16), .slice aso (min k zs.length - 20) cso, .slice asd (n - k) csd] := hV9.symm
      have hb9 : But (fun b => b = w.heap.size) V8 V9 := by rw [hV10]; exact putRow_but (E := fun b => b = w.heap.size) (n := w.heap.size) rfl _ _ _ _ (But.refl _ _)
      have p9 := putRow_all [.int .u8 (zs[1]?.getD 0), .int .u16 (wat zs 4), .bool (decide (16384 ≤ wat zs 6 % 32768)), .int .u8 (zs[8]?.getD 0), .int .u8 (zs[9]?.getD 0), .int .u32 (wat4 zs 12), .int .u32 (wat4 zs 16), .slice aso (min k zs.length - 20) cso, .slice asd (n - k) csd] p8 rfl
      rw [← hV10] at p9
      clear hV9 hV10
      have q9 := (hb9.block _ (Array.getElem?_eq_some_iff.1 q8).1 (by omega)).trans q8
      have q10 := heap_set1 q9 0 (.int .i64 0)
      have p10 := (Below.heap_setCell V9 ⟨w.heap.size + 1, 0, none⟩ (.int .i64 0) w.heap.size (by simp)).trans p9
      have hs8 : w.heap.size ≤ V8.heap.size := Nat.le_trans hs7 hb8.size
      have hb10 : Below w.heap.size w (V9.setCell ⟨w.heap.size + 1, 0, none⟩ (.int .i64 0)) := (hbW8.trans (hb9.below hs8 (fun j h e => by omega))).setCell (p := ⟨w.heap.size + 1, 0, none⟩) (Nat.le_succ _) _
      have hbb : But (fun b => b = w.heap.size ∨ b = w.heap.size + 1) V8 (V9.setCell ⟨w.heap.size + 1, 0, none⟩ (.int .i64 0)) := But.setCell (⟨hb9.os, hb9.tape, hb9.output, hb9.size, fun j hj he => hb9.block j hj (fun e => he (.inl e))⟩) (.inr rfl) _
      have := HM.out
      rw [if_neg (by simp [h1]), if_neg (by simp [ral]; omega), if_neg (by simp [h3]), if_neg (by have h5 := HK.out; have h6 := HN.out; simp [ral]; omega)] at this
      refine door_idle _ w.heap.size 0 _ _ _ _ _ _ _ _ _ _ p10 q10 rfl rfl ⟨hb10, .inr ⟨this, _, _, rfl, ?_, ?_⟩⟩
      · rw [HK.out]
        exact (hOo8.but hbb (fun b h e => by have := hb6.size; omega)).mono (Nat.le_trans hb3.size hb6.size)
      · rw [HK.out, show ral true zs = (n : Int) from by simp [ral]; have h6 := HN.out; omega]
        exact (hOd8.but hbb (fun b h e => by have := hb6.size; omega)).mono (Nat.le_trans hb3.size hb6.size)
    · go_wp2_with fail
      rw [show decide ((zs.length : Int) < wat zs 2) = false from by simpa using hmn]
      have hb5 : Below (w.heap.size + 1 + 1) W3 (w4.setCell ⟨w.heap.size + 1 + 1, 1, none⟩ (.int .i64 (wat zs 2))) := hb4.setCell (p := ⟨w.heap.size + 1 + 1, 1, none⟩) (Nat.le_refl _) _
      have K0 : (w4.setCell ⟨w.heap.size + 1 + 1, 1, none⟩ (.int .i64 (wat zs 2))).cell? ⟨w.heap.size + 1 + 1, 0, none⟩ = some (.int .i64 (hl4 zs)) := (World.cell?_setCell_other _ _ _ _ (by simp)).trans k0
      have K1 : (w4.setCell ⟨w.heap.size + 1 + 1, 1, none⟩ (.int .i64 (wat zs 2))).cell? ⟨w.heap.size + 1 + 1, 1, none⟩ = some (.int .i64 (wat zs 2)) := World.cell?_setCell_same _ _ _ k1
      have K2 : (w4.setCell ⟨w.heap.size + 1 + 1, 1, none⟩ (.int .i64 (wat zs 2))).cell? ⟨w.heap.size + 1 + 1, 2, none⟩ = some (.slice a zs.length cap) := (World.cell?_setCell_other _ _ _ _ (by simp)).trans k2
      generalize w4.setCell ⟨w.heap.size + 1 + 1, 1, none⟩ (.int .i64 (wat zs 2)) = W5 at *
      clear hb4 k0 k1 k2
      refine (refuse_no 3 _).mono ?_
      rintro e w' ⟨rfl, rfl⟩
      have hz5 := hb5.size
      go_wp2_with fail
      refine (check_any (w.heap.size + 1 + 1) _ zs W5 hB hl ((hI.below (hb3.trans (hb5.mono (by omega)))).mono (by omega)) hfit.1 hfit.2.1 K0 K2).mono ?_
      rintro e w6 ⟨l6, ⟨h3, rfl⟩ | ⟨h3, rfl⟩⟩
      · have := HM.out
        rw [if_neg (by simp [h1]), if_neg (by simp [ral]; omega), if_pos h3] at this
        subst this
        exact door_refused _ w.heap.size w.heap.size _ 0 _ w6 ((l6.block _ (by omega)).trans ((hb5.block _ (by omega)).trans a6)) rfl ((l6.block _ (by omega)).trans ((hb5.block _ (by omega)).trans a5)) (Nat.le_refl _) rfl rfl (fun w' hb' => ⟨((hb3.trans (hb5.mono (by omega))).trans (l6.mono (by omega))).trans hb', .inl ⟨h3, rfl⟩⟩)
      obtain ⟨k, hk⟩ := Int.eq_ofNat_of_zero_le (show 0 ≤ hl4 zs by omega)
      obtain ⟨n, hn⟩ := Int.eq_ofNat_of_zero_le (show 0 ≤ wat zs 2 by omega)
      rw [hk] at K0
      rw [hn] at K1
      have c6 := l6.cell K0
      have d6 := l6.cell K1
      have e6 := l6.cell K2
      have p6 := (l6.block _ (by omega)).trans ((hb5.block _ (by omega)).trans a6)
      have q6 := (l6.block _ (by omega)).trans ((hb5.block _ (by omega)).trans a5)
      have hb6 := hb5.trans (l6.mono (by omega))
      have HK := hide hk
      have HN := hide hn
      have hkn : 20 ≤ k ∧ k ≤ n ∧ n ≤ zs.length ∧ n ≤ 65535 := by omega
      clear hk hn
      go_wp2_with fail
      refine (packet_any (w.heap.size + 1 + 1) _ zs k n w6 hB hl ((hI.below (hb3.trans (hb6.mono (by omega)))).mono (Nat.le_trans hb3.size hb6.size)) hkn.1 hkn.2.1 hkn.2.2.1 hkn.2.2.2 c6 d6 e6).mono ?_
      rintro e w7 ⟨so, sd, rfl, hOo, hOd, l7⟩
      have p7 := (l7.block _ (Array.getElem?_eq_some_iff.1 p6).1).trans p6
      have q7 := (l7.block _ (Array.getElem?_eq_some_iff.1 q6).1).trans q6
      have hb7 := hb6.trans (l7.mono (Nat.le_trans (by omega) hb6.size))
      obtain ⟨aso, cso, rfl, _, _⟩ := hOo.slice
      obtain ⟨asd, csd, rfl, _, _⟩ := hOd.slice
      have hlo : ((zs.take k).drop 20).length = min k zs.length - 20 := by simp
      have hld : ((zs.take n).drop k).length = n - k := by simp; omega
      rw [hlo] at hOo ⊢
      rw [hld] at hOd ⊢
      clear hlo hld
      have P7 := block_cell p7
      have F7 := block_frozen p7
      unfold pkt
      go_wp2_with fail
      clear P7 F7
      generalize hV8 : ((((((((w7.setCell ⟨w.heap.size, 0, none⟩ _).setCell ⟨w.heap.size, 1, none⟩ _).setCell ⟨w.heap.size, 2, none⟩ _).setCell ⟨w.heap.size, 3, none⟩ _).setCell ⟨w.heap.size, 4, none⟩ _).setCell ⟨w.heap.size, 5, none⟩ _).setCell ⟨w.heap.size, 6, none⟩ _).setCell ⟨w.heap.size, 7, none⟩ _).setCell ⟨w.heap.size, 8, none⟩ _ = V8
      have hV9 : V8 = putRow w7 w.heap.size 0 [.int .u8 (zs[1]?.getD 0), .int .u16 (wat zs 4), .bool (decide (16384 ≤ wat zs 6 % 32768)), .int .u8 (zs[8]?.getD 0), .int .u8 (zs[9]?.getD 0), .int .u32 (wat4 zs 12), .int .u32 (wat4 zs 16), .slice aso (min k zs.length - 20) cso, .slice asd (n - k) csd] := hV8.symm
      have hb8 : But (fun b => b = w.heap.size) w7 V8 := by rw [hV9]; exact putRow_but (E := fun b => b = w.heap.size) (n := w.heap.size) rfl _ _ _ _ (But.refl _ _)
      have p8 := putRow_all [.int .u8 (zs[1]?.getD 0), .int .u16 (wat zs 4), .bool (decide (16384 ≤ wat zs 6 % 32768)), .int .u8 (zs[8]?.getD 0), .int .u8 (zs[9]?.getD 0), .int .u32 (wat4 zs 12), .int .u32 (wat4 zs 16), .slice aso (min k zs.length - 20) cso, .slice asd (n - k) csd] p7 rfl
      rw [← hV9] at p8
      clear hV8 hV9
      have q8 := (hb8.block _ (Array.getElem?_eq_some_iff.1 q7).1 (by omega)).trans q7
      have P8 := block_cell p8
      have F8 := block_frozen p8
      have E8 := block_cell q8
      have G8 := block_frozen q8
      have hs7 : w.heap.size ≤ w7.heap.size := Nat.le_trans hb3.size hb7.size
      have hbW8 := (hb3.trans (hb7.mono (by omega))).trans (hb8.below hs7 (fun j h e => by omega))
      have hOo8 := hOo.but hb8 (fun b h e => by have := hb6.size; omega)
      have hOd8 := hOd.but hb8 (fun b h e => by have := hb6.size; omega)
      have hw8 : Later w7 w7 := Later.refl _
      by_cases h4 : n - k < 8
      · rw [show decide (((n - k : Nat) : Int) < 8) = true from by simp; omega]
        refine (refuse_yes 3 _).mono ?_
        rintro e w' ⟨rfl, rfl⟩
        have := HM.out
        rw [if_neg (by simp [h1]), if_neg (by simp [ral]; omega), if_neg (by simp [h3]), if_pos ⟨by simp, by have h5 := HK.out; have h6 := HN.out; simp [ral]; omega⟩] at this
        subst this
        exact door_refused _ w.heap.size w.heap.size _ 0 _ V8 p8 rfl q8 (Nat.le_refl _) rfl rfl (fun w' hb' => ⟨hbW8.trans hb', .inl ⟨by omega, rfl⟩⟩)
      rw [show decide (((n - k : Nat) : Int) < 8) = false from by simp; omega]
      refine (refuse_no 3 _).mono ?_
      rintro e w' ⟨rfl, rfl⟩
      go_wp2_with fail
      generalize hV9 : ((((((((V8.setCell ⟨w.heap.size, 0, none⟩ _).setCell ⟨w.heap.size, 1, none⟩ _).setCell ⟨w.heap.size, 2, none⟩ _).setCell ⟨w.heap.size, 3, none⟩ _).setCell ⟨w.heap.size, 4, none⟩ _).setCell ⟨w.heap.size, 5, none⟩ _).setCell ⟨w.heap.size, 6, none⟩ _).setCell ⟨w.heap.size, 7, none⟩ _).setCell ⟨w.heap.size, 8, none⟩ _ = V9
      have hV10 : V9 = putRow V8 w.heap.size 0 [.int .u8 (zs[1]?.getD 0), .int .u16 (wat zs 4), .bool (decide (16384 ≤ wat zs 6 % 32768)), .int .u8 (zs[8]?.getD 0), .int .u8 (zs[9]?.getD 0), .int .u32 (wat4 zs 12), .int .u32 (wat4 zs 16), .slice aso (min k zs.length - 20) cso, .slice asd (n - k) csd] := hV9.symm
      have hb9 : But (fun b => b = w.heap.size) V8 V9 := by rw [hV10]; exact putRow_but (E := fun b => b = w.heap.size) (n := w.heap.size) rfl _ _ _ _ (But.refl _ _)
      have p9 := putRow_all [.int .u8 (zs[1]?.getD 0), .int .u16 (wat zs 4), .bool (decide (16384 ≤ wat zs 6 % 32768)), .int .u8 (zs[8]?.getD 0), .int .u8 (zs[9]?.getD 0), .int .u32 (wat4 zs 12), .int .u32 (wat4 zs 16), .slice aso (min k zs.length - 20) cso, .slice asd (n - k) csd] p8 rfl
      rw [← hV10] at p9
      clear hV9 hV10
      have q9 := (hb9.block _ (Array.getElem?_eq_some_iff.1 q8).1 (by omega)).trans q8
      have q10 := heap_set1 q9 0 (.int .i64 0)
      have p10 := (Below.heap_setCell V9 ⟨w.heap.size + 1, 0, none⟩ (.int .i64 0) w.heap.size (by simp)).trans p9
      have hs8 : w.heap.size ≤ V8.heap.size := Nat.le_trans hs7 hb8.size
      have hb10 : Below w.heap.size w (V9.setCell ⟨w.heap.size + 1, 0, none⟩ (.int .i64 0)) := (hbW8.trans (hb9.below hs8 (fun j h e => by omega))).setCell (p := ⟨w.heap.size + 1, 0, none⟩) (Nat.le_succ _) _
      have hbb : But (fun b => b = w.heap.size ∨ b = w.heap.size + 1) V8 (V9.setCell ⟨w.heap.size + 1, 0, none⟩ (.int .i64 0)) := But.setCell (⟨hb9.os, hb9.tape, hb9.output, hb9.size, fun j hj he => hb9.block j hj (fun e => he (.inl e))⟩) (.inr rfl) _
      have := HM.out
      rw [if_neg (by simp [h1]), if_neg (by simp [ral]; omega), if_neg (by simp [h3]), if_neg (by have h5 := HK.out; have h6 := HN.out; simp [ral]; omega)] at this
      refine door_idle _ w.heap.size 0 _ _ _ _ _ _ _ _ _ _ p10 q10 rfl rfl ⟨hb10, .inr ⟨this, _, _, rfl, ?_, ?_⟩⟩
      · rw [HK.out]
        exact (hOo8.but hbb (fun b h e => by have := hb6.size; omega)).mono (Nat.le_trans hb3.size hb6.size)
      · rw [HK.out, show ral true zs = (n : Int) from by simp [ral]; have h6 := HN.out; omega]
        exact (hOd8.but hbb (fun b h e => by have := hb6.size; omega)).mono (Nat.le_trans hb3.size hb6.size)
end Go.Proofs.YtohflohdbkamnaaGreatDoor

/- Package gate: how a packet is given up, and that this is caught. -/
namespace Go.Proofs.YtohflohdbkamnaaGreatDoor
open Go.RowKit Go.Shelf
set_option maxRecDepth 100000
set_option linter.unusedVariables false
set_option linter.unusedSimpArgs false

theorem later_allocG (w : World) (o : Obj) : Later w (w.alloc o) := (Below.refl _ _).alloc (Nat.le_refl _) _
/-- What the steps of a packet give up with. -/
abbrev dps (c : Int) : Value := .iface 108 (.agg #[.int .i64 c])
abbrev dpp (c : Int) : List PanicEntry := [{ v := dps c, recovered := false }]
/-- Given up, with a reason that is not Passed. -/
def Gvn (e : Ending) : Prop := ∃ c : Int, (1 ≤ c ∧ c ≤ 7) ∧ e = .panicked (dpp c)

theorem grefuse_no (c : Int) (w : World) :
    Calls Tryz.prog 44 #[.bool false, .int .i64 c] w fun e w' => e = .returned (.tuple #[]) ∧ w = w' := by
  go_enter Tryz.func44, Tryz.ntmps44
  go_wp2
  go_end0
  exact ⟨rfl, rfl⟩

theorem grefuse_yes (c : Int) (w : World) :
    Calls Tryz.prog 44 #[.bool true, .int .i64 c] w fun e w' => e = .panicked (dpp c) ∧ w = w' := by
  go_enter Tryz.func44, Tryz.ntmps44
  go_wp2
  exact ⟨rfl, rfl, rfl⟩

/-- An outcome of nothing but a reason. -/
abbrev oc (c : Int) : List Value := [.int .i64 c, .int .i64 0, .slice none 0 0]

theorem gta_yes (c : Int) (w : World) : (Instr.typeAssert (dps c) 20 108 true).run Tryz.prog w = .ok (.tuple #[.agg #[.int .i64 c], .bool true]) w := by kernel_rfl

set_option maxHeartbeats 1000000 in
theorem gcatch_refused (n ob : Nat) (c : Int) (u0 u1 u2 : Value) (w : World) (hp : w.heap[ob]? = some (.cells #[u0, u1, u2] 34 (0, 0))) (hn : n ≤ ob) :
    CallsD Tryz.prog 42 #[.pointer (some ⟨ob, 0, none⟩)] (.panicking (dpp c)) w fun e u' w' =>
      e = .returned (.tuple #[]) ∧ u' = .panicking [{ v := dps c, recovered := true }] ∧ w'.heap[ob]? = some (.cells (oc c).toArray 34 (0, 0)) ∧ Below n w w' := by
  have hpl := (Array.getElem?_eq_some_iff.1 hp).1
  refine callsD_of_wpS Tryz.func42 rfl fun c₀ cs hu => ?_
  apply wpS_seq
  apply wpS_region
  simp [wpOpsS, go_sem, recoverD, hu, Tryz.ntmps42, Exit.thenS]
  simp only [Array.replicate_succ, Array.replicate_zero, List.push_toArray, List.append_toArray, List.nil_append, List.cons_append, List.setIfInBounds_toArray, List.set_cons_zero, List.set_cons_succ]
  have hta := gta_yes c
  refine wpS_of_wp ?_
  have hb0 : Later w (w.alloc (.cells #[.int .i64 c] 108)) := (Below.refl _ _).alloc (Nat.le_refl _) _
  have q3 : (w.alloc (.cells #[.int .i64 c] 108)).cell? ⟨w.heap.size, 0, none⟩ = some (.int .i64 c) := cell_new w _ _ 0
  have hp0 := (hb0.block ob hpl).trans hp
  have hwp : w.heap.size ≠ ob := by omega
  have hpw : ¬ ob = w.heap.size := by omega
  go_upto_region 7 with fail
  generalize w.alloc (.cells #[.int .i64 c] 108) = W0 at *
  generalize hgd : w.heap.size = gd at *
  have hb0s : gd ≤ W0.heap.size := by rw [← hgd]; exact hb0.size
  have k6 := block_cell hp0
  have f6 := block_frozen hp0
  go_wp2
  generalize hV7 : ((W0.setCell ⟨ob, 0, none⟩ _).setCell ⟨ob, 1, none⟩ _).setCell ⟨ob, 2, none⟩ _ = V7
  have hV8 : V7 = putRow W0 ob 0 (oc c) := hV7.symm
  have hbp : But (fun b => b = ob) W0 V7 := by rw [hV8]; exact putRow_but (E := fun b => b = ob) (n := ob) rfl (oc c) 0 W0 W0 (But.refl _ _)
  have hP := putRow_all (oc c) hp0 rfl
  rw [← hV8] at hP
  clear hV7 hV8
  have hB2 : Below n w V7 := (hb0.mono (by omega)).trans (hbp.below (by omega) (fun k h e => by omega))
  refine ⟨rfl, _, rfl, .tuple #[], by simp [results, Tryz.results42], rfl, rfl, hP, hB2⟩

abbrev gdfr (ob : Nat) : List Deferred := [{ target := .fn (.func 42) #[.pointer (some ⟨ob, 0, none⟩)], args := #[] }]

theorem res_handle (tm : Array Value) (ob : Nat) (v0 v1 v2 : Value) (w : World) (h4 : tm[6]? = some (.pointer (some ⟨ob, 0, none⟩))) (hp : w.heap[ob]? = some (.cells #[v0, v1, v2] 34 (0, 0))) :
    (results Tryz.f19 tm).run Tryz.prog w = .ok (.agg #[v0, v1, v2]) w := by
  have kP := block_cell hp
  simp [results, Tryz.results19, go_sem, h4, kP]

theorem gdoor_refused {R : Ending → World → Prop} (tm : Array Value) (n ob : Nat) (c : Int) (u0 u1 u2 : Value) (w : World) (hp : w.heap[ob]? = some (.cells #[u0, u1, u2] 34 (0, 0))) (hn : n ≤ ob)
    (h4 : tm[6]? = some (.pointer (some ⟨ob, 0, none⟩)))
    (hR : ∀ w', Below n w w' → R (.returned (.agg (oc c).toArray)) w') :
    bodyPostD Tryz.prog Tryz.f19 R (.panic (dpp c)) { tmps := tm, defers := gdfr ob } w := by
  refine leaves_cons (f := 42) (args := #[.pointer (some ⟨ob, 0, none⟩)]) (by simp) (by simp [go_sem]) ?_
  refine (gcatch_refused n ob c u0 u1 u2 w hp hn).mono ?_
  rintro e u' w'' ⟨rfl, rfl, hP, hb⟩
  exact ⟨_, res_handle tm ob _ _ _ w'' h4 hP, hR w'' hb⟩

end Go.Proofs.YtohflohdbkamnaaGreatDoor

/- Package rules: rules as they lie in memory; their upper bits. -/
namespace Go.Proofs.YtohflohdbkamnaaGreatDoor
open Go.RowKit Go.Shelf
set_option maxRecDepth 100000
set_option linter.unusedVariables false
set_option linter.unusedSimpArgs false

/-- A rule. -/
structure Ru where
  kind : Int
  proto : Int
  net : Int
  bits : Int
  tt : Int
  port : Int
  host : Int
  hp : Int
deriving DecidableEq
def ruc (r : Ru) : List Value := [.int .i64 r.kind, .int .u8 r.proto, .int .u32 r.net, .int .i64 r.bits, .int .u32 r.tt, .int .u16 r.port, .int .u32 r.host, .int .u16 r.hp]
def zRu : Ru := ⟨0, 0, 0, 0, 0, 0, 0, 0⟩
def rus (l : List Ru) : List Value := l.flatMap ruc
theorem ruc_length (r : Ru) : (ruc r).length = 8 := rfl
theorem rus_snoc (l : List Ru) (r : Ru) : rus (l ++ [r]) = rus l ++ ruc r := by unfold rus; simp
theorem rus_at : ∀ (l : List Ru) (j i : Nat) (hj : j < l.length), i < 8 → (rus l)[j * 8 + i]? = (ruc l[j])[i]?
  | r :: l, 0, i, _, hi => by
    unfold rus
    rw [List.flatMap_cons, Nat.zero_mul, Nat.zero_add, List.getElem?_append_left (by rw [ruc_length]; exact hi)]
    rfl
  | r :: l, j + 1, i, hj, hi => by
    have ih := rus_at l j i (by simpa using hj) hi
    unfold rus at ih ⊢
    rw [List.flatMap_cons, List.getElem?_append_right (by rw [ruc_length]; omega), ruc_length, show (j + 1) * 8 + i - 8 = j * 8 + i from by omega, ih]
    rfl
/-- Its numbers are of their types. -/
def wfR (r : Ru) : Prop := (-9223372036854775808 ≤ r.kind ∧ r.kind ≤ 9223372036854775807) ∧ (0 ≤ r.proto ∧ r.proto ≤ 255) ∧ (0 ≤ r.net ∧ r.net ≤ 4294967295) ∧ (-9223372036854775808 ≤ r.bits ∧ r.bits ≤ 9223372036854775807) ∧ (0 ≤ r.tt ∧ r.tt ≤ 4294967295) ∧ (0 ≤ r.port ∧ r.port ≤ 65535) ∧ (0 ≤ r.host ∧ r.host ≤ 4294967295) ∧ (0 ≤ r.hp ∧ r.hp ≤ 65535)
/-- The slice value reads as these rules, all of it below block n₀. -/
def RdQ (n₀ : Nat) (W : World) (sv : Value) (l : List Ru) : Prop :=
  (∃ a cap, sv = .slice a 0 cap ∧ l = [] ∧ cap ≤ 9223372036854775807 ∧ (a = none → cap = 0)) ∨
  ∃ b off cap, sv = .slice (some ⟨b, off, none⟩) l.length cap ∧ l ≠ [] ∧ l.length ≤ cap ∧ cap ≤ 9223372036854775807 ∧ b < n₀ ∧ ∀ j (hj : j < l.length), ∀ i, i < 8 → W.cell? ⟨b, off + j * 8 + i, none⟩ = (ruc l[j])[i]?
theorem RdQ.below {n₀ : Nat} {A B : World} (h : Below n₀ A B) {sv : Value} {l : List Ru} : RdQ n₀ A sv l → RdQ n₀ B sv l
  | .inl e => .inl e
  | .inr ⟨b, off, cap, e, hne, hl, hm, hb, hc⟩ => .inr ⟨b, off, cap, e, hne, hl, hm, hb, fun j hj i hi => (h.cell (p := ⟨b, off + j * 8 + i, none⟩) hb).trans (hc j hj i hi)⟩
theorem RdQ.mono {n₀ n₁ : Nat} {A : World} (h : n₀ ≤ n₁) {sv : Value} {l : List Ru} : RdQ n₀ A sv l → RdQ n₁ A sv l
  | .inl e => .inl e
  | .inr ⟨b, off, cap, e, hne, hl, hm, hb, hc⟩ => .inr ⟨b, off, cap, e, hne, hl, hm, Nat.lt_of_lt_of_le hb h, hc⟩
theorem RdQ.slice {n₀ : Nat} {A : World} {sv : Value} {l : List Ru} : RdQ n₀ A sv l → ∃ a cap, sv = .slice a l.length cap ∧ l.length ≤ cap ∧ cap ≤ 9223372036854775807
  | .inl ⟨a, cap, e, hz, hm, _⟩ => ⟨a, cap, by rw [e, hz]; rfl, by rw [hz]; exact Nat.zero_le _, hm⟩
  | .inr ⟨b, off, cap, e, _, hl, hm, _⟩ => ⟨_, cap, e, hl, hm⟩
theorem RdQ.cells {n₀ : Nat} {W : World} {sv : Value} {l : List Ru} (h : RdQ n₀ W sv l) (hne : 0 < l.length) : ∃ b off cap, sv = .slice (some ⟨b, off, none⟩) l.length cap ∧ l.length ≤ cap ∧ cap ≤ 9223372036854775807 ∧ b < n₀ ∧ ∀ j (hj : j < l.length), ∀ i, i < 8 → W.cell? ⟨b, off + j * 8 + i, none⟩ = (ruc l[j])[i]? := by
  rcases h with ⟨a, cap, _, rfl, _⟩ | ⟨b, off, cap, e, _, hl, hm, hb, hc⟩
  · simp at hne
  · exact ⟨b, off, cap, e, hl, hm, hb, hc⟩
/-- What one's own row of rules reads as. -/
theorem ownU_rd {base : Nat} {W : World} {v : Value} {l : List Ru} (h : W.ownsRow base 28 8 v l.length (rus l)) : RdQ W.heap.size W v l := by
  obtain ⟨h1, ⟨rfl, h0⟩ | ⟨g, cap, cur, rfl, hg, hh, hl, hm, hs, hc⟩⟩ := h
  · have : l = [] := List.eq_nil_of_length_eq_zero h0
    subst this
    exact .inl ⟨none, 0, rfl, rfl, by omega, fun _ => rfl⟩
  · by_cases hn : l = []
    · subst hn
      exact .inl ⟨_, cap, rfl, rfl, by simpa [maxLen] using hm, fun h => by cases h⟩
    · refine .inr ⟨g, 0, cap, rfl, hn, hl, by simpa [maxLen] using hm, (Array.getElem?_eq_some_iff.1 hh).1, fun j hj i hi => ?_⟩
      rw [Nat.zero_add, block_cell hh, ← rus_at l j i hj hi, ← hc, List.getElem?_take_of_lt (by omega)]
      simp
theorem ownU_later {base : Nat} {A B : World} {v : Value} {n : Nat} {xs : List Value} (h : A.ownsRow base 28 8 v n xs) (l : Later A B) : B.ownsRow base 28 8 v n xs := by
  obtain ⟨h1, h2 | ⟨g, cap, cur, hv, hg, hh, r⟩⟩ := h
  · exact ⟨h1, .inl h2⟩
  · exact ⟨h1, .inr ⟨g, cap, cur, hv, hg, later_keep l hh, r⟩⟩
/-- Rules as they lie in memory: at block b, of type t, the list in a block of its own. -/
def RL (t : TypeId) (base : Nat) (W : World) (b : Nat) (v : Value) (l : List Ru) : Prop := base ≤ b ∧ W.heap[b]? = some (.cells #[v] t (0, 0)) ∧ W.ownsRow base 28 8 v l.length (rus l)
theorem RL.later {t : TypeId} {base : Nat} {A B : World} {b : Nat} {v : Value} {l : List Ru} (h : RL t base A b v l) (k : Later A B) : RL t base B b v l := ⟨h.1, later_keep k h.2.1, ownU_later h.2.2 k⟩
theorem RL.but {t : TypeId} {base : Nat} {A B : World} {b : Nat} {v : Value} {l : List Ru} {E : Nat → Prop} (h : RL t base A b v l) (k : But E A B) (hb : ¬ E b) (hv : ∀ g, v.ownBlock = some g → ¬ E g) : RL t base B b v l := by
  refine ⟨h.1, (k.block b (Array.getElem?_eq_some_iff.1 h.2.1).1 hb).trans h.2.1, ?_⟩
  obtain ⟨h1, h2 | ⟨g, cap, cur, e, hg, hh, r⟩⟩ := h.2.2
  · exact ⟨h1, .inl h2⟩
  · exact ⟨h1, .inr ⟨g, cap, cur, e, hg, (k.block g (Array.getElem?_eq_some_iff.1 hh).1 (hv g (by rw [e]; rfl))).trans hh, r⟩⟩
/-- The list's block is no object's. -/
theorem RL.ne {t t2 : TypeId} {base : Nat} {W : World} {b c : Nat} {v : Value} {l : List Ru} {cur : Array Value} (h : RL t base W b v l) (hc : W.heap[c]? = some (.cells cur t2 (0, 0))) (ht : t2 ≠ 28) : v.ownBlock ≠ some c := fun e => by
  obtain ⟨h1, ⟨hn, _⟩ | ⟨g, cap, cu, hv, hg, hh, r⟩⟩ := h.2.2
  · rw [hn] at e; cases e
  · rw [hv] at e
    cases e
    rw [hc] at hh
    simp at hh
    exact ht hh.2
theorem RL.lt {t : TypeId} {base : Nat} {W : World} {b : Nat} {v : Value} {l : List Ru} (h : RL t base W b v l) {g : Nat} (e : v.ownBlock = some g) : base ≤ g ∧ g < W.heap.size := by
  obtain ⟨h1, ⟨hn, _⟩ | ⟨g2, cap, cu, hv, hg, hh, r⟩⟩ := h.2.2
  · rw [hn] at e; cases e
  · rw [hv] at e
    cases e
    exact ⟨hg, (Array.getElem?_eq_some_iff.1 hh).1⟩
theorem RL.blt {t : TypeId} {base : Nat} {W : World} {b : Nat} {v : Value} {l : List Ru} (h : RL t base W b v l) : b < W.heap.size := (Array.getElem?_eq_some_iff.1 h.2.1).1

/-- So many upper bits set. -/
def upm (k : Int) : Int := 4294967296 - 2 ^ (32 - k.toNat)
/-- A number's upper bits. -/
def upp (n k : Int) : Int := n / 2 ^ (32 - k.toNat) * 2 ^ (32 - k.toNat)
theorem nat_and_up (n j : Nat) (hj : j ≤ 32) (hn : n < 4294967296) : n &&& (4294967296 - 2 ^ j) = n / 2 ^ j * 2 ^ j := by
  have e : 4294967296 - 2 ^ j = (2 ^ (32 - j) - 1) <<< j := by
    rw [Nat.shiftLeft_eq, Nat.sub_mul, ← Nat.pow_add, show 32 - j + j = 32 from by omega]
    simp
  have e2 : n / 2 ^ j * 2 ^ j = (n >>> j) <<< j := by rw [Nat.shiftLeft_eq, Nat.shiftRight_eq_div_pow]
  rw [e, e2]
  apply Nat.eq_of_testBit_eq
  intro i
  simp only [Nat.testBit_and, Nat.testBit_shiftLeft, Nat.testBit_shiftRight, Nat.testBit_two_pow_sub_one]
  by_cases h : j ≤ i
  · simp [h]
    intro hb
    by_cases hi : i < 32
    · omega
    · have : n.testBit i = false := Nat.testBit_lt_two_pow (Nat.lt_of_lt_of_le hn (by rw [show 4294967296 = 2 ^ 32 from rfl]; exact Nat.pow_le_pow_right (by omega) (by omega)))
      rw [this] at hb; cases hb
  · simp [h]
theorem upm_bd (k : Int) (h0 : 0 ≤ k) (h1 : k ≤ 32) : 0 ≤ upm k ∧ upm k ≤ 4294967295 := by
  unfold upm
  have h2 : (2 : Nat) ^ (32 - k.toNat) ≤ 2 ^ 32 := Nat.pow_le_pow_right (by omega) (by omega)
  have h3 : 0 < (2 : Nat) ^ (32 - k.toNat) := Nat.pow_pos (by omega)
  have e : ((2 : Int) ^ (32 - k.toNat)) = ((2 ^ (32 - k.toNat) : Nat) : Int) := by simp
  rw [e]
  omega
end Go.Proofs.YtohflohdbkamnaaGreatDoor

/- Package rules: all rules, the first that is wanted. -/
namespace Go.Proofs.YtohflohdbkamnaaGreatDoor
open Go.RowKit Go.Shelf
set_option maxRecDepth 100000
attribute [local go_sem] Oper.semAt_some
set_option linter.unusedVariables false
set_option linter.unusedSimpArgs false

def encU (r : Ru) : Array Value := #[.agg (ruc r).toArray]
def XU (l : List Ru) (pre : List Ru) (x : Ru) (_V : World) : Prop := ∃ rest, pre ++ x :: rest = l

theorem allU_in (n : Nat) (p : Option Addr) (w : World) :
    CallsIn Fence.wide n Tryz.prog 113 #[.pointer p] w fun e w' => e = .returned (.func (.func 163) #[] #[.pointer (some ⟨w.heap.size, 0, none⟩)]) ∧ w' = w.alloc (.cells #[.pointer p] 59) := by
  refine callsIn_of_wp Tryz.func113 rfl trivial ?_ rfl
  simp only [Tryz.ntmps113, List.size_toArray, List.length_cons, List.length_nil, Nat.reduceAdd, Nat.reduceSub, Array.replicate_succ, Array.replicate_zero, List.push_toArray, List.append_toArray, List.nil_append, List.cons_append]
  gi_wp2
  go_ret
  exact ⟨rfl, rfl⟩

set_option maxRecDepth 100000 in
set_option maxHeartbeats 4000000 in
theorem allU1_in (n : Nat) (hn : 1 ≤ n) (l B b n₀ : Nat) (v : Value) (ls : List Ru) (J Jx : List Ru → World → Prop)
    (hJ : ∀ s A B, J s A → Later A B → J s B)
    (hY : ∀ pre x V, J pre V → XU ls pre x V → YieldAt Fence.wide (n - 1) Tryz.prog l (encU x) V fun e V' => (e = .returned (.bool true) ∧ J (pre ++ [x]) V' ∧ Below n₀ V V') ∨ (e = .returned (.bool false) ∧ Jx (pre ++ [x]) V'))
    (W : World) (hB : W.cell? ⟨B, 0, none⟩ = some (.pointer (some ⟨b, 0, none⟩))) (hn0 : n₀ ≤ W.heap.size) (hc : W.cell? ⟨b, 0, none⟩ = some v) (hR : RdQ n₀ W v ls) (h0 : J [] W) :
    CallsIn Fence.wide n Tryz.prog 163 #[.func (.yield l) #[] #[], .pointer (some ⟨B, 0, none⟩)] W fun e W' => (∃ v, e = .returned v) ∧ ((∃ xs, xs = ls ∧ J xs W') ∨ (∃ pre, (∃ rest, pre ++ rest = ls) ∧ Jx pre W')) := by
  obtain ⟨sa, cap, rfl, hc1, hc2⟩ := hR.slice
  have HR := hide hR
  clear hR
  refine callsIn_of_wp Tryz.func163 rfl trivial ?_ rfl
  simp only [Tryz.ntmps163, List.size_toArray, List.length_cons, List.length_nil, Nat.reduceAdd, Nat.reduceSub, Array.replicate_succ, Array.replicate_zero, List.push_toArray, List.append_toArray, List.nil_append, List.cons_append]
  gi_wp2
  gi_loopw [12] (fun i wx => ∃ k : Nat, k ≤ ls.length ∧ i = .int .i64 (k : Int) ∧ J (ls.take k) wx ∧ Below n₀ W wx) (fun i _ => ls.length - (intOf i).toNat)
  case atStart => exact ⟨0, by omega, rfl, by rw [List.take_zero]; exact h0, Below.refl _ _⟩
  case round =>
    obtain ⟨k, hk, rfl, hJk, hbk⟩ := hrel
    by_cases hkl : k < ls.length
    · obtain ⟨g, off, cp, e, _, _, hgn, hcs⟩ := (HR.out.below hbk).cells (by omega)
      simp at e
      obtain ⟨rfl, rfl⟩ := e
      have c0 := hcs k hkl 0 (by omega)
      have c1 := hcs k hkl 1 (by omega)
      have c2 := hcs k hkl 2 (by omega)
      have c3 := hcs k hkl 3 (by omega)
      have c4 := hcs k hkl 4 (by omega)
      have c5 := hcs k hkl 5 (by omega)
      have c6 := hcs k hkl 6 (by omega)
      have c7 := hcs k hkl 7 (by omega)
      have hkl' : (k : Int) < ls.length := by omega
      have hat : ∃ rest, ls.take k ++ ls[k] :: rest = ls := ⟨ls.drop (k + 1), by rw [← List.drop_eq_getElem_cons hkl, List.take_append_drop]⟩
      have htk : ls.take (k + 1) = ls.take k ++ [ls[k]] := (List.take_append_getElem hkl).symm
      have htl : ∃ rest, ls.take k ++ [ls[k]] ++ rest = ls := ⟨ls.drop (k + 1), by rw [List.take_append_getElem hkl, List.take_append_drop]⟩
      clear hcs
      generalize hgo : ls[k] = r at *
      have HAT := hide hat
      have HTK := hide htk
      have HTL := hide htl
      clear hgo hat htk htl
      simp only [ruc, List.getElem?_cons_zero, List.getElem?_cons_succ, Nat.add_zero] at c0 c1 c2 c3 c4 c5 c6 c7
      have la : Later wr (wr.alloc (.cells #[.int .i64 r.kind, .int .u8 r.proto, .int .u32 r.net, .int .i64 r.bits, .int .u32 r.tt, .int .u16 r.port, .int .u32 r.host, .int .u16 r.hp] 28)) := (Below.refl _ _).alloc (Nat.le_refl _) _
      obtain ⟨fn, tmps, assign, body, hy, hR⟩ := hY _ r _ (hJ _ _ _ hJk la) HAT.out
      dsimp only [encU, ruc] at hy
      have hwr := Nat.le_trans hn0 hbk.size
      gi_wp2
      refine hR.mono ?_
      rintro e W3 (⟨rfl, hJ3, hk3⟩ | ⟨rfl, hJx3⟩)
      · gi_wp2
        go_roundw
        case rel => exact ⟨k + 1, by omega, by go_num, by rw [HTK.out]; exact hJ3, hbk.trans ((la.mono hwr).trans hk3)⟩
        case measure => simp [intOf]; omega
      · gi_wp2
        refine bodyPost_ret (results_none rfl _ _ _) rfl ?_
        exact ⟨⟨_, rfl⟩, .inr ⟨_, HTL.out, hJx3⟩⟩
    · obtain rfl : k = ls.length := by omega
      gi_wp2
      go_end0
      exact ⟨⟨_, rfl⟩, .inl ⟨_, rfl, by rw [List.take_length] at hJk; exact hJk⟩⟩

theorem allU1_nil (n : Nat) (l B : Nat) (J Jx : List Ru → World → Prop) (W : World) (hB : W.cell? ⟨B, 0, none⟩ = some (.pointer none)) (h0 : J [] W) :
    CallsIn Fence.wide n Tryz.prog 163 #[.func (.yield l) #[] #[], .pointer (some ⟨B, 0, none⟩)] W fun e W' => (∃ v, e = .returned v) ∧ ((∃ xs, xs = [] ∧ J xs W') ∨ (∃ pre, (∃ rest, pre ++ rest = []) ∧ Jx pre W')) := by
  refine callsIn_of_wp Tryz.func163 rfl trivial ?_ rfl
  simp only [Tryz.ntmps163, List.size_toArray, List.length_cons, List.length_nil, Nat.reduceAdd, Nat.reduceSub, Array.replicate_succ, Array.replicate_zero, List.push_toArray, List.append_toArray, List.nil_append, List.cons_append]
  gi_wp2
  refine bodyPost_ret (results_none rfl _ _ _) rfl ?_
  exact ⟨⟨_, rfl⟩, .inl ⟨_, rfl, h0⟩⟩

/-- The rules that a pointer leads to: none of nil. -/
def PL (base : Nat) (W : World) (p : Option Addr) (l : List Ru) : Prop := (p = none ∧ l = []) ∨ ∃ b v, p = some ⟨b, 0, none⟩ ∧ RL 166 base W b v l
theorem PL.later {base : Nat} {A B : World} {p : Option Addr} {l : List Ru} (h : PL base A p l) (k : Later A B) : PL base B p l := h.imp id fun ⟨b, v, e, h⟩ => ⟨b, v, e, h.later k⟩

theorem allU_gen (n : Nat) (hn : 1 ≤ n) (B base : Nat) (p : Option Addr) (ls : List Ru) (w0 w : World) (hT : PL base w0 p ls) (hw : Later w0 w) (hBl : B < w.heap.size) (hB : w.cell? ⟨B, 0, none⟩ = some (.pointer p)) :
    GenX Fence.wide n Tryz.prog 163 #[.pointer (some ⟨B, 0, none⟩)] encU (Below w0.heap.size) (XU ls) (fun xs => xs = ls) (fun pre => ∃ rest, pre ++ rest = ls) w := fun l J Jx W hW hJ hY h0 => by
  have hwW : Later w0 W := hw.trans hW
  have hBW := (hW.cell (p := ⟨B, 0, none⟩) hBl).trans hB
  rcases hT with ⟨rfl, rfl⟩ | ⟨b, v, rfl, hT⟩
  · exact allU1_nil n l B J Jx W hBW h0
  · exact allU1_in n hn l B b w0.heap.size v ls J Jx hJ hY W hBW hwW.size ((block_cell (hT.later hwW).2.1 0).trans rfl) ((ownU_rd hT.2.2).below hwW) h0
end Go.Proofs.YtohflohdbkamnaaGreatDoor

/- Package rules: the first rule that is wanted. -/
namespace Go.Proofs.YtohflohdbkamnaaGreatDoor
open Go.RowKit Go.Shelf
set_option maxRecDepth 100000
attribute [local go_sem] Oper.semAt_some
set_option linter.unusedVariables false
set_option linter.unusedSimpArgs false

def CTu (A B : World) : Prop := A.heap.size ≤ B.heap.size ∧ ∀ (k : Nat) (o : Obj), A.heap[k]? = some o → o.isCells = true → B.heap[k]? = some o
theorem CTu.of {A B : World} (h : Later A B) : CTu A B := ⟨h.size, fun k o ho _ => later_keep h ho⟩
theorem CTu.row {A B : World} {row : Option Nat} (hg : A.grownBy B row) (hr : ∀ r, row = some r → ∃ o : Obj, A.heap[r]? = some o ∧ o.isCells = false) : CTu A B :=
  ⟨hg.size, fun k o ho hc => (hg.block k (Array.getElem?_eq_some_iff.1 ho).1 (fun e => by obtain ⟨o', h1, h2⟩ := hr k e.symm; rw [ho] at h1; cases h1; rw [hc] at h2; cases h2)).trans ho⟩
theorem CTu.put {A : World} {l : Nat} {o o' : Obj} (h : A.heap[l]? = some o) (hc : o.isCells = false) : CTu A (A.putObj l o') :=
  CTu.row (grownBy_putObj' A l o') (fun r e => by cases e; exact ⟨o, h, hc⟩)

/-- The first that is wanted; is there one? -/
def fnd (p : Ru → Bool) (l : List Ru) : Ru := (l.find? p).getD zRu
def fdb (p : Ru → Bool) (l : List Ru) : Bool := (l.find? p).isSome
theorem fnd_no {p : Ru → Bool} {l : List Ru} (h : ∀ x ∈ l, p x = false) : fnd p l = zRu ∧ fdb p l = false := by
  have : l.find? p = none := by rw [List.find?_eq_none]; intro x hx; rw [h x hx]; simp
  unfold fnd fdb
  rw [this]
  exact ⟨rfl, rfl⟩
theorem fnd_yes {p : Ru → Bool} {pre : List Ru} {x : Ru} {rest : List Ru} (h : ∀ y ∈ pre, p y = false) (hx : p x = true) : fnd p (pre ++ [x] ++ rest) = x ∧ fdb p (pre ++ [x] ++ rest) = true := by
  have : (pre ++ [x] ++ rest).find? p = some x := by
    rw [List.append_assoc, List.find?_append, show pre.find? p = none from by rw [List.find?_eq_none]; intro y hy; rw [h y hy]; simp]
    simp [hx]
  unfold fnd fdb
  rw [this]
  exact ⟨rfl, rfl⟩

/-- What first keeps while it looks. -/
def PF (rb : Nat) (cv : Value) (p : Ru → Bool) (w : World) (pre : List Ru) (W : World) : Prop :=
  (W.heap[rb]? = some (.cells #[cv] 163 (0, 0)) ∧ W.heap[rb + 1]? = some (.cells (ruc zRu).toArray 28 (0, 0)) ∧ W.heap[rb + 1 + 1]? = some (.cells #[.bool false] 4 (0, 0))) ∧ ∀ x ∈ pre, p x = false
theorem PF.ct {rb : Nat} {cv : Value} {p : Ru → Bool} {w : World} {pre : List Ru} {A B : World} (h : PF rb cv p w pre A) (c : CTu A B) : PF rb cv p w pre B :=
  ⟨⟨c.2 _ _ h.1.1 rfl, c.2 _ _ h.1.2.1 rfl, c.2 _ _ h.1.2.2 rfl⟩, h.2⟩
/-- How it leaves when it has found. -/
def PG (rb : Nat) (p : Ru → Bool) (pre : List Ru) (W : World) : Prop :=
  ∃ pre0 x, pre = pre0 ++ [x] ∧ p x = true ∧ (∀ y ∈ pre0, p y = false) ∧ W.heap[rb + 1]? = some (.cells (ruc x).toArray 28 (0, 0)) ∧ W.heap[rb + 1 + 1]? = some (.cells #[.bool true] 4 (0, 0))
theorem PG.ct {rb : Nat} {p : Ru → Bool} {pre : List Ru} {A B : World} (h : PG rb p pre A) (c : CTu A B) : PG rb p pre B := by
  obtain ⟨pre0, x, h1, h2, h3, h4, h5⟩ := h
  exact ⟨pre0, x, h1, h2, h3, c.2 _ _ h4 rfl, c.2 _ _ h5 rfl⟩
theorem belowU_b {w : World} {n₀ : Nat} (hn : n₀ ≤ w.heap.size) (W : World) (l : Nat) (o o' : Obj) (hl : w.heap.size ≤ l) (ho : W.heap[l]? = some o) (hc : o.isCells = false) (hw : o.isWalk = false) : Below n₀ W (W.putObj l o') :=
  belowK_b (w := w) hn W l o o' hl ho hc hw

set_option maxHeartbeats 1000000 in
theorem first_endU (rb D : Nat) (x : Ru) (t : Bool) (W w : World) (hD : rb + 1 + 1 + 1 ≤ D) (hb : Below w.heap.size w W) (h1 : W.heap[rb + 1]? = some (.cells (ruc x).toArray 28 (0, 0))) (h2 : W.heap[rb + 1 + 1]? = some (.cells #[.bool t] 4 (0, 0))) (hK : W.heap[D]? = some (.deferred (some [])))
    (hrb : w.heap.size ≤ rb) (t0 t1 t2 t3 t6 t7 t8 t9 t10 t11 t12 t13 t14 : Value) :
    bodyPostM Fence.wide 5 Tryz.prog Tryz.f112 (fun e w' => e = .returned (.tuple #[.agg (ruc x).toArray, .bool t]) ∧ Later w w') Exit.ret
      { tmps := #[t0, t1, t2, t3, .pointer (some ⟨rb + 1, 0, none⟩), .pointer (some ⟨rb + 1 + 1, 0, none⟩), t6, t7, t8, t9, t10, t11, t12, t13, t14], defers := [{ target := .collected D, args := #[] }] } W := by
  refine ⟨by simp, .inl ⟨_, _, rfl, run_takeDeferred hK, ?_⟩⟩
  have z1 := (CTu.put (o' := .deferred none) hK rfl).2 _ _ h1 rfl
  have z2 := (CTu.put (o' := .deferred none) hK rfl).2 _ _ h2 rfl
  have k1 := block_cell z1
  have k2 := block_cell z2
  simp only [ruc] at k1
  refine ⟨.tuple #[.agg (ruc x).toArray, .bool t], by simp [results, Tryz.results112, go_sem, k1, k2, ruc], rfl, hb.trans (belowK_b (w := w) (Nat.le_refl _) W D _ _ (by omega) hK rfl rfl)⟩

set_option maxRecDepth 100000 in
set_option maxHeartbeats 4000000 in
theorem first_any (base cf : Nat) (lb : Array Value) (p : Option Addr) (B : Nat) (ls : List Ru) (q : Ru → Bool) (w : World) (hT : PL base w p ls) (hBl : B < w.heap.size) (hB : w.cell? ⟨B, 0, none⟩ = some (.pointer p))
    (eg : ∀ args w, (callFunc cf args).run Tryz.prog w = .ok (.enter cf args) w)
    (hcl : ∀ x ∈ ls, ∀ W, Later w W → Calls Tryz.prog cf (#[.agg (ruc x).toArray] ++ lb) W fun e W' => e = .returned (.bool (q x)) ∧ Later W W') :
    Calls Tryz.prog 112 #[.func (.func 163) #[] #[.pointer (some ⟨B, 0, none⟩)], .func (.func cf) #[] lb] w fun e w' => e = .returned (.tuple #[.agg (ruc (fnd q ls)).toArray, .bool (fdb q ls)]) ∧ Later w w' := by
  refine (callsIn_wide (n := 5)).1 ?_
  refine callsIn_of_wp_marks Tryz.func112 rfl trivial ?_ rfl
  simp only [Tryz.ntmps112, List.size_toArray, List.length_cons, List.length_nil, Nat.reduceAdd, Nat.reduceSub, Array.replicate_succ, Array.replicate_zero, List.push_toArray, List.append_toArray, List.nil_append, List.cons_append]
  have hb4 : Later w (((w.alloc (.cells #[.func (.func cf) #[] lb] 163)).alloc (.cells #[.int .i64 0, .int .u8 0, .int .u32 0, .int .i64 0, .int .u32 0, .int .u16 0, .int .u32 0, .int .u16 0] 28)).alloc (.cells #[.bool false] 4)) := (((Below.refl _ _).alloc (Nat.le_refl _) _).alloc (by simp) _).alloc (by simp <;> omega) _
  have c0 : (((w.alloc (.cells #[.func (.func cf) #[] lb] 163)).alloc (.cells #[.int .i64 0, .int .u8 0, .int .u32 0, .int .i64 0, .int .u32 0, .int .u16 0, .int .u32 0, .int .u16 0] 28)).alloc (.cells #[.bool false] 4)).heap[w.heap.size]? = some (.cells #[.func (.func cf) #[] lb] 163) := (Below.heap_alloc _ _ _ (by simp <;> omega)).trans ((Below.heap_alloc _ _ _ (by simp)).trans (heap_alloc_new w _))
  have c1 : (((w.alloc (.cells #[.func (.func cf) #[] lb] 163)).alloc (.cells #[.int .i64 0, .int .u8 0, .int .u32 0, .int .i64 0, .int .u32 0, .int .u16 0, .int .u32 0, .int .u16 0] 28)).alloc (.cells #[.bool false] 4)).heap[w.heap.size + 1]? = some (.cells #[.int .i64 0, .int .u8 0, .int .u32 0, .int .i64 0, .int .u32 0, .int .u16 0, .int .u32 0, .int .u16 0] 28) := by
    have := heap_alloc_new (w.alloc (.cells #[.func (.func cf) #[] lb] 163)) (.cells #[.int .i64 0, .int .u8 0, .int .u32 0, .int .i64 0, .int .u32 0, .int .u16 0, .int .u32 0, .int .u16 0] 28)
    rw [World.size_alloc] at this
    exact (Below.heap_alloc _ _ _ (by simp)).trans this
  have c2 : (((w.alloc (.cells #[.func (.func cf) #[] lb] 163)).alloc (.cells #[.int .i64 0, .int .u8 0, .int .u32 0, .int .i64 0, .int .u32 0, .int .u16 0, .int .u32 0, .int .u16 0] 28)).alloc (.cells #[.bool false] 4)).heap[w.heap.size + 1 + 1]? = some (.cells #[.bool false] 4) := by
    have := heap_alloc_new ((w.alloc (.cells #[.func (.func cf) #[] lb] 163)).alloc (.cells #[.int .i64 0, .int .u8 0, .int .u32 0, .int .i64 0, .int .u32 0, .int .u16 0, .int .u32 0, .int .u16 0] 28)) (.cells #[.bool false] 4)
    simpa only [World.size_alloc] using this
  have hs4 : (((w.alloc (.cells #[.func (.func cf) #[] lb] 163)).alloc (.cells #[.int .i64 0, .int .u8 0, .int .u32 0, .int .i64 0, .int .u32 0, .int .u16 0, .int .u32 0, .int .u16 0] 28)).alloc (.cells #[.bool false] 4)).heap.size = w.heap.size + 1 + 1 + 1 := by simp
  have HCL := hide hcl
  have HEG := hide eg
  have C0 := hide c0
  have C1 := hide c1
  have C2 := hide c2
  have HS4 := hide hs4
  clear hcl eg c0 c1 c2 hs4
  gi_wp2
  generalize ((w.alloc (.cells #[.func (.func cf) #[] lb] 163)).alloc (.cells #[.int .i64 0, .int .u8 0, .int .u32 0, .int .i64 0, .int .u32 0, .int .u16 0, .int .u32 0, .int .u16 0] 28)).alloc (.cells #[.bool false] 4) = w4 at *
  have hs4 : w4.heap.size = w.heap.size + 1 + 1 + 1 := HS4.out
  refine wpIn_rangeX (w := w4) rfl (by omega) (gf := 163) (lb := #[.pointer (some ⟨B, 0, none⟩)]) rfl trivial (enters_of Tryz.func163 (by kernel_rfl) rfl)
    (allU_gen 4 (by omega) B base p ls w w4 hT hb4 (by omega) ((hb4.cell hB)))
    (fun h k => h.trans k) (fun W l o o' hl ho hc hw => belowU_b (w := w4) (by omega) W l o o' hl ho hc hw) (fun hA hL => hL.mono (by omega)) (fun _ _ _ _ h _ => h) (fun _ _ _ _ _ _ _ _ _ h => h) (fun _ => rfl)
    (fun pre W => PF w.heap.size (.func (.func cf) #[] lb) q w pre W ∧ Below w.heap.size w W) (fun pre W => PG w.heap.size q pre W ∧ Below w.heap.size w W)
    (OwnFrom.and (fun s A B row hs hg hr => hs.ct (CTu.row hg (fun r e => (hr r e).2))) (ownFrom_below (Nat.le_refl _) (by omega)))
    (fun s A B h l => ⟨h.1.ct (CTu.of l), h.2.trans (l.mono h.2.size)⟩)
    (OwnFrom.and (fun s A B row hs hg hr => hs.ct (CTu.row hg (fun r e => (hr r e).2))) (ownFrom_below (Nat.le_refl _) (by omega)))
    ⟨⟨⟨C0.out, C1.out, C2.out⟩, fun x hx => by cases hx⟩, hb4⟩
    (fun x a' W => ∃ bx : Nat, w.heap.size + 1 + 1 + 1 ≤ bx ∧ W.heap[bx]? = some (.cells #[.int .i64 x.kind, .int .u8 x.proto, .int .u32 x.net, .int .i64 x.bits, .int .u32 x.tt, .int .u16 x.port, .int .u32 x.host, .int .u16 x.hp] 28 (0, 0)) ∧ a' = { tmps := #[.func (.func 163) #[] #[.pointer (some ⟨B, 0, none⟩)], .func (.func cf) #[] lb, undef, .pointer (some ⟨w.heap.size, 0, none⟩), .pointer (some ⟨w.heap.size + 1, 0, none⟩), .pointer (some ⟨w.heap.size + 1 + 1, 0, none⟩), .pointer (some ⟨bx, 0, none⟩), undef, .func (.func 163) #[] #[.pointer (some ⟨B, 0, none⟩)], .agg #[.int .i64 x.kind, .int .u8 x.proto, .int .u32 x.net, .int .i64 x.bits, .int .u32 x.tt, .int .u16 x.port, .int .u32 x.host, .int .u16 x.hp], undef, undef, undef, undef, undef], defers := [] })
    (fun x a' W l o o' hl ho hc h => by obtain ⟨bx, h1, h2, h3⟩ := h; exact ⟨bx, h1, (CTu.put ho hc).2 _ _ h2 rfl, h3⟩) ?assign ?body ?done ?stop
  case assign =>
    rintro l pre x W K hsz _ hX hK
    dsimp only [encU, ruc]
    gi_wp2
    refine hK _ _ ?_ ⟨W.heap.size, by omega, heap_alloc_new _ _, rfl⟩
    exact (Below.refl _ W).alloc (Nat.le_refl _) _
  case body =>
    rintro l pre x a' W ⟨⟨⟨h0, h1, h2⟩, hno⟩, hbW⟩ hX ⟨bx, hbx, hbo, rfl⟩
    have hxl : x ∈ ls := by obtain ⟨rest, e⟩ := hX; rw [← e]; simp
    have hc := (callsIn_wide (n := 2)).2 (HCL.out x hxl W hbW)
    have HC := hide (hc.inRound l)
    clear hc
    have Kb := block_cell hbo
    have K0 := block_cell h0
    gi_wp2
    refine ⟨trivial, ?_⟩
    rw [HEG.out]
    simp only [Oper.uponIn]
    clear Kb K0
    refine ⟨fun _ => by omega, HC.out.mono ?_⟩
    rintro e W1 ⟨rfl, l1⟩
    have hbW1 := hbW.trans (l1.mono hbW.size)
    have g0 := later_keep l1 h0
    have g1 := later_keep l1 h1
    have g2 := later_keep l1 h2
    have gb := later_keep l1 hbo
    have Kb := block_cell gb
    have hk1 : KeepsFrom w4.heap.size W W1 := ⟨l1.size, fun i o hi ho hc => later_keep l1 ho⟩
    cases hq : q x with
    | false =>
      have HQ := hide hq
      clear hq
      gi_wp2
      exact ⟨hk1, l1.mono hbW.size, ⟨⟨g0, g1, g2⟩, fun y hy => (List.mem_append.1 hy).elim (hno y) (fun h => by rw [show y = x from by simpa using h]; exact HQ.out)⟩, hbW1⟩
    | true =>
      have HQ := hide hq
      clear hq
      have K1 := block_cell g1
      have K2 := block_cell g2
      have F1 := block_frozen g1
      have F2 := block_frozen g2
      simp only [ruc] at K1
      gi_wp2
      obtain ⟨V, hV2⟩ : ∃ V, V = putRow W1 (w.heap.size + 1) 0 (ruc x) := ⟨_, rfl⟩
      have hfin : postX w4.heap.size (Below w.heap.size) (fun pre W => PF w.heap.size (.func (.func cf) #[] lb) q w pre W ∧ Below w.heap.size w W) (fun pre W => PG w.heap.size q pre W ∧ Below w.heap.size w W) (pre ++ [x]) W Exit.ret { tmps := #[], defers := [] } (V.setCell ⟨w.heap.size + 1 + 1, 0, none⟩ (.bool true)) := ?_
      · rw [hV2] at hfin
        exact hfin
      have v1 : V.heap[w.heap.size + 1]? = some (.cells (ruc x).toArray 28 (0, 0)) := by rw [hV2]; exact putRow_all (ruc x) g1 rfl
      have hbV : But (fun g => g = w.heap.size + 1 ∨ g = w.heap.size + 1 + 1) W1 V := by rw [hV2]; exact putRow_but (E := fun g => g = w.heap.size + 1 ∨ g = w.heap.size + 1 + 1) (n := w.heap.size + 1) (.inl rfl) (ruc x) 0 W1 W1 (But.refl _ _)
      have hbS := hbV.setCell (p := ⟨w.heap.size + 1 + 1, 0, none⟩) (.inr rfl) (.bool true)
      have hsz1 : w.heap.size ≤ W1.heap.size := hbW1.size
      have hbl := hbS.below hsz1 (fun k hk e => by rcases e with rfl | rfl <;> omega)
      refine ⟨⟨Nat.le_trans l1.size hbS.size, fun i o hi ho hc => ?_⟩, ⟨pre, x, rfl, HQ.out, hno, ?_, ?_⟩, hbW1.trans hbl⟩
      · have := later_keep l1 ho
        exact (hbS.block i (Array.getElem?_eq_some_iff.1 this).1 (fun e => by rcases e with rfl | rfl <;> omega)).trans this
      · exact (Below.heap_setCell V ⟨w.heap.size + 1 + 1, 0, none⟩ _ (w.heap.size + 1) (by simp)).trans v1
      · have v2 : V.heap[w.heap.size + 1 + 1]? = some (.cells #[.bool false] 4 (0, 0)) := by
          rw [hV2]
          exact ((putRow_rb (rb := w.heap.size + 1) (ruc x) W1).block (w.heap.size + 1 + 1) (Array.getElem?_eq_some_iff.1 g2).1 (by omega)).trans g2
        exact heap_set1 v2 0 _
  case done =>
    rintro D xs W hD rfl ⟨⟨⟨h0, h1, h2⟩, hno⟩, hbW⟩ hK
    have la : Later W (W.alloc (.cells #[.int .i64 0, .int .u8 0, .int .u32 0, .int .i64 0, .int .u32 0, .int .u16 0, .int .u32 0, .int .u16 0] 28)) := (Below.refl _ _).alloc (Nat.le_refl _) _
    have g1 := later_keep la h1
    have g2 := later_keep la h2
    have gD := later_keep la hK
    have K1 := block_cell g1
    have K2 := block_cell g2
    have F1 := block_frozen g1
    have F2 := block_frozen g2
    simp only [ruc, zRu] at K1
    gi_wp2
    obtain ⟨V, hV2⟩ : ∃ V, V = putRow (W.alloc (.cells #[.int .i64 0, .int .u8 0, .int .u32 0, .int .i64 0, .int .u32 0, .int .u16 0, .int .u32 0, .int .u16 0] 28)) (w.heap.size + 1) 0 (ruc zRu) := ⟨_, rfl⟩
    have v1 : V.heap[w.heap.size + 1]? = some (.cells (ruc zRu).toArray 28 (0, 0)) := by rw [hV2]; exact putRow_all (ruc zRu) g1 rfl
    have hbV : But (fun g => g = w.heap.size + 1 ∨ g = w.heap.size + 1 + 1) (W.alloc (.cells #[.int .i64 0, .int .u8 0, .int .u32 0, .int .i64 0, .int .u32 0, .int .u16 0, .int .u32 0, .int .u16 0] 28)) V := by rw [hV2]; exact putRow_but (E := fun g => g = w.heap.size + 1 ∨ g = w.heap.size + 1 + 1) (n := w.heap.size + 1) (.inl rfl) (ruc zRu) 0 _ _ (But.refl _ _)
    have v2 : V.heap[w.heap.size + 1 + 1]? = some (.cells #[.bool false] 4 (0, 0)) := by
      rw [hV2]
      exact ((putRow_rb (rb := w.heap.size + 1) (ruc zRu) _).block (w.heap.size + 1 + 1) (Array.getElem?_eq_some_iff.1 g2).1 (by omega)).trans g2
    have hbS := hbV.setCell (p := ⟨w.heap.size + 1 + 1, 0, none⟩) (.inr rfl) (.bool false)
    have hbA : Below w.heap.size w (W.alloc (.cells #[.int .i64 0, .int .u8 0, .int .u32 0, .int .i64 0, .int .u32 0, .int .u16 0, .int .u32 0, .int .u16 0] 28)) := hbW.trans (la.mono hbW.size)
    have hbl := hbA.trans (hbS.below hbA.size (fun k hk e => by rcases e with rfl | rfl <;> omega))
    have s1 : (V.setCell ⟨w.heap.size + 1 + 1, 0, none⟩ (.bool false)).heap[w.heap.size + 1]? = some (.cells (ruc zRu).toArray 28 (0, 0)) := (Below.heap_setCell V ⟨w.heap.size + 1 + 1, 0, none⟩ _ (w.heap.size + 1) (by simp)).trans v1
    have s2 : (V.setCell ⟨w.heap.size + 1 + 1, 0, none⟩ (.bool false)).heap[w.heap.size + 1 + 1]? = some (.cells #[.bool false] 4 (0, 0)) := heap_set1 v2 0 _
    have sD : (V.setCell ⟨w.heap.size + 1 + 1, 0, none⟩ (.bool false)).heap[D]? = some (.deferred (some [])) := (hbS.block D (Array.getElem?_eq_some_iff.1 gD).1 (fun e => by rcases e with rfl | rfl <;> omega)).trans gD
    obtain ⟨n1, n2⟩ := fnd_no hno
    have hfin := first_endU w.heap.size D zRu false (V.setCell ⟨w.heap.size + 1 + 1, 0, none⟩ (.bool false)) w (by omega) hbl s1 s2 sD (Nat.le_refl _)
    rw [n1, n2]
    rw [hV2] at hfin
    exact hfin _ _ _ _ _ _ _ _ _ _ _ _ _
  case stop =>
    rintro D pre W hD ⟨rest, hrest⟩ ⟨⟨pre0, x, rfl, hpx, hp0, h1, h2⟩, hbW⟩ hK
    obtain ⟨n1, n2⟩ := fnd_yes (rest := rest) hp0 hpx
    rw [hrest] at n1 n2
    gi_wp2
    rw [n1, n2]
    exact first_endU w.heap.size D x true W w (by omega) hbW h1 h2 hK (Nat.le_refl _) _ _ _ _ _ _ _ _ _ _ _ _ _
end Go.Proofs.YtohflohdbkamnaaGreatDoor
