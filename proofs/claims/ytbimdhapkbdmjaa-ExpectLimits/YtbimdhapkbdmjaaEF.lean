/- Package expect: Peek, Match. -/
import Derived.Test.YtbimdhapkbdmjaaEE
namespace Go.Proofs.Ytbimdhapkbdmjaa
open Go.RowKit Go.Shelf
set_option maxRecDepth 100000
set_option linter.unusedVariables false
set_option linter.unusedSimpArgs false

theorem alloc2 (w : World) (A B : Obj) : Later w ((w.alloc A).alloc B) ∧ ((w.alloc A).alloc B).heap[w.heap.size]? = some A ∧ ((w.alloc A).alloc B).heap[w.heap.size + 1]? = some B := by
  refine ⟨((Below.refl _ _).alloc (Nat.le_refl _) _).alloc (by simp) _, (Below.heap_alloc _ _ _ (by simp)).trans (heap_alloc_new w _), ?_⟩
  have := heap_alloc_new (w.alloc A) B
  rwa [World.size_alloc] at this
theorem alloc3 (w : World) (A B C : Obj) : Later w (((w.alloc A).alloc B).alloc C) ∧ (((w.alloc A).alloc B).alloc C).heap[w.heap.size]? = some A ∧ (((w.alloc A).alloc B).alloc C).heap[w.heap.size + 1]? = some B ∧ (((w.alloc A).alloc B).alloc C).heap[w.heap.size + 1 + 1]? = some C := by
  obtain ⟨h1, h2, h3⟩ := alloc2 w A B
  refine ⟨h1.trans ((Below.refl _ _).alloc (Nat.le_refl _) _), (Below.heap_alloc _ _ _ (by simp <;> omega)).trans h2, (Below.heap_alloc _ _ _ (by simp)).trans h3, ?_⟩
  have := heap_alloc_new ((w.alloc A).alloc B) C
  simpa only [World.size_alloc] using this

/-- The first that is wanted; is there one? -/
def fnd (p : Ex → Bool) (l : List Ex) : Ex := (l.find? p).getD zEx
def fdb (p : Ex → Bool) (l : List Ex) : Bool := (l.find? p).isSome
theorem find_at {p : Ex → Bool} {l : List Ex} {k : Nat} (hk : k < l.length) (hp : p l[k] = true) (hno : ∀ x ∈ l.take k, p x = false) : l.find? p = some l[k] := by
  have e : l = l.take k ++ l[k] :: l.drop (k + 1) := by rw [← List.drop_eq_getElem_cons hk, List.take_append_drop]
  have h1 : (l.take k).find? p = none := by rw [List.find?_eq_none]; intro x hx; rw [hno x hx]; simp
  conv => lhs; rw [e]
  rw [List.find?_append, h1, Option.none_or, List.find?_cons_of_pos hp]
theorem find_no {p : Ex → Bool} {l : List Ex} (hno : ∀ x ∈ l, p x = false) : l.find? p = none := by rw [List.find?_eq_none]; intro x hx; rw [hno x hx]; simp

set_option maxHeartbeats 4000000 in
theorem peek12_any (base b : Nat) (v : Value) (l : List Ex) (t : Tu) (now : Int) (w : World) (hT : BL 54 base w b v l) (hl : l.length ≤ 1000) :
    Calls Try.prog 17 #[.pointer (some ⟨b, 0, none⟩), .agg (tuc t).toArray, .int .i64 now] w fun e w' => e = .returned (.tuple #[.agg (exc (fnd (pkX t now) l)).toArray, .bool (fdb (pkX t now) l)]) ∧ Later w w' := by
  obtain ⟨av, cv, rfl, hcl, hcm⟩ := (ownE_rd hT.2.2).slice
  obtain ⟨lb0, c0, c1, c2⟩ := alloc3 w (.cells (tuc t).toArray 28) (.cells #[.int .i64 now] 3) (.cells (exc zEx).toArray 26)
  have hli : (l.length : Int) ≤ 1000 := by omega
  go_enter Try.func17, Try.ntmps17
  have k0 := block_cell (later_keep lb0 hT.2.1)
  unfold tuc exc zEx at *
  simp only at *
  go_wp2_with fail
  generalize ((w.alloc _).alloc _).alloc _ = w0 at *
  have hT0 := hT.later lb0
  have HIX := hide (index12_any w0.heap.size 34 #[.pointer (some ⟨w.heap.size, 0, none⟩), .pointer (some ⟨w.heap.size + 1, 0, none⟩)] _ l (pkX t now) w0 (ownE_rd hT0.2.2) (Nat.le_refl _) (by omega) (enters_of Try.func34 (by kernel_rfl) rfl) (fun x _ W hW => peek1_any x t now w.heap.size (w.heap.size + 1) W (by unfold tuc; exact later_keep hW c0) ((block_cell (later_keep hW c1) 0).trans rfl)))
  refine HIX.out.mono ?_
  rintro e w1 ⟨⟨k, hk, rfl, hq, hno⟩ | ⟨rfl, hno⟩, l1⟩
  · have hfi := find_at hk hq hno
    have L1 := lb0.trans l1
    have d2 := later_keep l1 c2
    have hT1 := hT0.later l1
    obtain ⟨g, off, cp, e, _, _, hgn, hcs⟩ := (ownE_rd hT1.2.2).cells (by omega)
    simp at e
    obtain ⟨rfl, rfl⟩ := e
    have e0 := hcs k hk 0 (by omega)
    have e1 := hcs k hk 1 (by omega)
    have e2 := hcs k hk 2 (by omega)
    have e3 := hcs k hk 3 (by omega)
    have e4 := hcs k hk 4 (by omega)
    have e5 := hcs k hk 5 (by omega)
    have e6 := hcs k hk 6 (by omega)
    have e7 := hcs k hk 7 (by omega)
    have e8 := hcs k hk 8 (by omega)
    have HF1 : Hid (fnd (pkX t now) l = l[k]) := by show _ = _; unfold fnd; rw [hfi]; rfl
    have HF2 : Hid (fdb (pkX t now) l = true) := by show _ = _; unfold fdb; rw [hfi]; rfl
    have hki : (k : Int) < l.length := by omega
    clear hcs hfi hq hno HIX
    generalize l[k] = r at *
    simp only [exc, List.getElem?_cons_zero, List.getElem?_cons_succ, Nat.add_zero] at e0 e1 e2 e3 e4 e5 e6 e7 e8
    clear k0
    have k1 := block_cell hT1.2.1
    have K2 := block_cell d2
    have F2 := block_frozen d2
    go_wp2_with fail
    change bodyPost _ _ _ _ _ (putRow w1 (w.heap.size + 1 + 1) 0 (exc r))
    have v1 := putRow_all (exc r) d2 rfl
    have hbl : Below w.heap.size w1 (putRow w1 (w.heap.size + 1 + 1) 0 (exc r)) := (putRow_rb (rb := w.heap.size + 1 + 1) (exc r) w1).below L1.size (fun k hk e => by omega)
    generalize putRow w1 (w.heap.size + 1 + 1) 0 (exc r) = V at *
    have kk := block_cell v1
    simp only [exc] at kk
    refine bodyPost_ret (v := .tuple #[.agg #[.int .u8 r.pr, .int .u32 r.src, .int .u32 r.dst, .int .u16 r.sp, .int .u16 r.dp, .int .u32 r.host, .int .u16 r.hp, .int .i64 r.ms, .int .i64 r.dl], .bool true]) (by simp [results, Try.results17, go_sem, kk]) rfl ⟨by rw [HF1.out, HF2.out], Below.trans L1 hbl⟩
  · have hfi := find_no hno
    have L1 := lb0.trans l1
    have d2 := later_keep l1 c2
    have HF1 : Hid (fnd (pkX t now) l = zEx) := by show _ = _; unfold fnd; rw [hfi]; rfl
    have HF2 : Hid (fdb (pkX t now) l = false) := by show _ = _; unfold fdb; rw [hfi]; rfl
    clear hfi hno HIX k0
    have K2 := block_cell d2
    have F2 := block_frozen d2
    go_wp2_with fail
    change bodyPost _ _ _ _ _ (putRow w1 (w.heap.size + 1 + 1) 0 (exc zEx))
    have v1 := putRow_all (exc zEx) d2 rfl
    have hbl : Below w.heap.size w1 (putRow w1 (w.heap.size + 1 + 1) 0 (exc zEx)) := (putRow_rb (rb := w.heap.size + 1 + 1) (exc zEx) w1).below L1.size (fun k hk e => by omega)
    generalize putRow w1 (w.heap.size + 1 + 1) 0 (exc zEx) = V at *
    have kk := block_cell v1
    simp only [exc, zEx] at kk
    refine bodyPost_ret (v := .tuple #[.agg #[.int .u8 0, .int .u32 0, .int .u32 0, .int .u16 0, .int .u16 0, .int .u32 0, .int .u16 0, .int .i64 0, .int .i64 0], .bool false]) (by simp [results, Try.results17, go_sem, kk]) rfl ⟨by rw [HF1.out, HF2.out]; rfl, Below.trans L1 hbl⟩

/-- What is left when the first that is wanted is taken out. -/
def mtL (q : Ex → Bool) (l : List Ex) : List Ex := if fdb q l then l.filter (fun x => !decide (x = fnd q l)) else l
theorem mtL_yes {q : Ex → Bool} {l : List Ex} (h : fdb q l = true) : mtL q l = l.filter (fun x => !decide (x = fnd q l)) := by unfold mtL; rw [if_pos h]
theorem mtL_no {q : Ex → Bool} {l : List Ex} (h : fdb q l = false) : mtL q l = l := by unfold mtL; rw [if_neg (by rw [h]; simp)]

set_option maxHeartbeats 4000000 in
theorem match12_any (base b : Nat) (v : Value) (l : List Ex) (t : Tu) (now : Int) (w : World) (hT : BL 54 base w b v l) (hbs : base ≤ w.heap.size) (hl : l.length ≤ 1000) :
    Calls Try.prog 18 #[.pointer (some ⟨b, 0, none⟩), .agg (tuc t).toArray, .int .i64 now] w fun e w' => e = .returned (.tuple #[.agg (exc (fnd (pkX t now) l)).toArray, .bool (fdb (pkX t now) l)]) ∧ BLq 54 base w w' b v (mtL (pkX t now) l) := by
  obtain ⟨lb0, c0, c1⟩ := alloc2 w (.cells (tuc t).toArray 28) (.cells (exc zEx).toArray 26)
  have k0 := block_cell c0
  have HPK := hide (fun W (h : Later w W) => peek12_any base b v l t now W (hT.later h) hl)
  have hbl := hT.blt
  go_enter Try.func18, Try.ntmps18
  unfold tuc at *
  have e0 : (exc zEx).toArray = #[.int .u8 0, .int .u32 0, .int .u32 0, .int .u16 0, .int .u16 0, .int .u32 0, .int .u16 0, .int .i64 0, .int .i64 0] := rfl
  rw [e0] at lb0 c0 c1 k0
  clear e0
  go_wp2_with fail
  generalize (w.alloc _).alloc _ = w0 at *
  refine (HPK.out w0 lb0).mono ?_
  rintro e w1 ⟨rfl, l1⟩
  have L1 := lb0.trans l1
  have d1 := later_keep l1 c1
  have hs1 : w.heap.size + 1 < w1.heap.size := (Array.getElem?_eq_some_iff.1 d1).1
  clear k0 c0 c1 HPK
  generalize hr : fnd (pkX t now) l = r at *
  generalize hq : fdb (pkX t now) l = q at *
  have HR := hide hr
  have HQ := hide hq
  unfold exc
  have la : Later w1 (w1.alloc (.cells #[.int .u8 r.pr, .int .u32 r.src, .int .u32 r.dst, .int .u16 r.sp, .int .u16 r.dp, .int .u32 r.host, .int .u16 r.hp, .int .i64 r.ms, .int .i64 r.dl] 26)) := (Below.refl _ _).alloc (Nat.le_refl _) _
  have cr := heap_alloc_new w1 (.cells #[.int .u8 r.pr, .int .u32 r.src, .int .u32 r.dst, .int .u16 r.sp, .int .u16 r.dp, .int .u32 r.host, .int .u16 r.hp, .int .i64 r.ms, .int .i64 r.dl] 26)
  have d2 := later_keep la d1
  cases q with
  | false =>
    have HL := hide (mtL_no hq)
    clear hr hq
    have L2 := L1.trans la
    go_upto_region 2 with fail
    generalize w1.alloc _ = w2 at *
    have kr := block_cell cr
    have K2 := block_cell d2
    have F2 := block_frozen d2
    go_wp2_with fail
    change bodyPost _ _ _ _ _ (putRow w2 (w.heap.size + 1) 0 (exc r))
    have v1 := putRow_all (exc r) d2 rfl
    have hbt : But (fun g => g = w.heap.size + 1) w2 (putRow w2 (w.heap.size + 1) 0 (exc r)) := putRow_rb (rb := w.heap.size + 1) (exc r) w2
    generalize putRow w2 (w.heap.size + 1) 0 (exc r) = V at *
    have kk := block_cell v1
    simp only [exc] at kk
    refine bodyPost_ret (v := .tuple #[.agg #[.int .u8 r.pr, .int .u32 r.src, .int .u32 r.dst, .int .u16 r.sp, .int .u16 r.dp, .int .u32 r.host, .int .u16 r.hp, .int .i64 r.ms, .int .i64 r.dl], .bool false]) (by simp [results, Try.results18, go_sem, kk]) rfl ⟨by rw [HR.out, HQ.out]; rfl, ?_⟩
    rw [HL.out]
    exact BLq.same hT (Below.trans L2 (hbt.below L2.size (fun k hk e => by omega)))
  | true =>
    have HL := hide (mtL_yes hq)
    rw [hr] at HL
    clear hr hq
    have kr := block_cell cr
    have L2 := L1.trans la
    have hTO := takeOut_any base b 37 #[.pointer (some ⟨w1.heap.size, 0, none⟩)] v l (fun x => decide (x = r)) _ (hT.later L2) (Nat.le_trans hbs L2.size) hl (enters_of Try.func37 (by kernel_rfl) rfl) (fun x _ W hW => match1_any x r w1.heap.size W (later_keep hW cr))
    have HTO := hide hTO
    clear hTO
    go_wp2_with fail
    generalize w1.alloc _ = w2 at *
    refine HTO.out.mono ?_
    rintro e w3 ⟨u, rfl, v', h1, h2, h3, h4⟩
    have hs2 : w1.heap.size < w2.heap.size := (Array.getElem?_eq_some_iff.1 cr).1
    have d3 := (h3.block (w.heap.size + 1) (by omega) (by omega)).trans d2
    have cr3 := (h3.block w1.heap.size (by omega) (by omega)).trans cr
    clear kr HTO h2
    have kr := block_cell cr3
    have K2 := block_cell d3
    have F2 := block_frozen d3
    go_wp2_with fail
    change bodyPost _ _ _ _ _ (putRow w3 (w.heap.size + 1) 0 (exc r))
    have v1 := putRow_all (exc r) d3 rfl
    have hbt : But (fun g => g = w.heap.size + 1) w3 (putRow w3 (w.heap.size + 1) 0 (exc r)) := putRow_rb (rb := w.heap.size + 1) (exc r) w3
    generalize putRow w3 (w.heap.size + 1) 0 (exc r) = V at *
    have kk := block_cell v1
    simp only [exc] at kk
    refine bodyPost_ret (v := .tuple #[.agg #[.int .u8 r.pr, .int .u32 r.src, .int .u32 r.dst, .int .u16 r.sp, .int .u16 r.dp, .int .u32 r.host, .int .u16 r.hp, .int .i64 r.ms, .int .i64 r.dl], .bool true]) (by simp [results, Try.results18, go_sem, kk]) rfl ⟨by rw [HR.out, HQ.out]; rfl, ?_⟩
    rw [HL.out]
    have hw2 : w.heap.size ≤ w2.heap.size := L2.size
    refine ⟨v', ⟨h1.1, (hbt.block b h1.blt (by omega)).trans h1.2.1, ownE_but h1.2.2 hbt (fun g hg e => by have := h4 g hg; omega)⟩, ?_, .inr (fun g hg => Nat.le_trans hw2 (h4 g hg))⟩
    have hbq : Below w.heap.size w w2 := L2
    exact ⟨hbt.os.trans (h3.os.trans hbq.os), hbt.tape.trans (h3.tape.trans hbq.tape), hbt.output.trans (h3.output.trans hbq.output), Nat.le_trans hbq.size (Nat.le_trans h3.size hbt.size), fun k hk he => by
      have := h3.size
      rw [hbt.block k (by omega) (by omega), h3.block k (by omega) (fun e => he (.inl e)), hbq.block k hk]⟩
end Go.Proofs.Ytbimdhapkbdmjaa
