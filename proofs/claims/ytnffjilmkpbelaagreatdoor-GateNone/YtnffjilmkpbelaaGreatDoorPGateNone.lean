/- At every input GateNone returns true, and its arguments read as before, as long as package ctrl's table and the library's table of places hold what the program's text lays there (the card ties it). -/
import Derived.Test.YtnffjilmkpbelaaGreatDoorTe
import Derived.Test.YtnffjilmkpbelaaGreatDoorOp2
import Derived.Test.YtnffjilmkpbelaaGreatDoorOpX
import Derived.Test.YtnffjilmkpbelaaGreatDoorPFaGN
import Derived.Test.YtnffjilmkpbelaaGreatDoorPFbGN
import Derived.Test.YtnffjilmkpbelaaGreatDoorPFcGN
import Derived.Test.YtnffjilmkpbelaaGreatDoorPFdGN
import Derived.Test.YtnffjilmkpbelaaGreatDoorPFeGN
import Derived.Test.YtnffjilmkpbelaaGreatDoorPFfGN
import Derived.Test.YtnffjilmkpbelaaGreatDoorPFgGN
import Derived.Test.YtnffjilmkpbelaaGreatDoorPFhGN
import Derived.Test.YtnffjilmkpbelaaGreatDoorPFiGN
import Derived.Test.YtnffjilmkpbelaaGreatDoorPFjGN
import Derived.Test.YtnffjilmkpbelaaGreatDoorPFkGN
import Derived.Test.YtnffjilmkpbelaaGreatDoorGnb
import Derived.ShutString
import Derived.ChangeOld
import Derived.Below
namespace Go.Proofs.YtnffjilmkpbelaaGreatDoor.gateNone
open Go.ChangeShapes Go.WideShapes Go.ChangeAt Go.RowKit
set_option maxRecDepth 100000
set_option linter.unusedVariables false
set_option linter.unusedSimpArgs false

theorem own : ownKnob Tryz.prog.godebug = none := by kernel_rfl
theorem laidOut : laidOutB Tryz.prog = true := by kernel_rfl

theorem contract (H : Type) (enc : TypeId × Value → H) (W : World) (base : Nat) (args : Array Value) (ds gs : List (DataW H)) (before : List MemPlace)
  (hval0 : ∀ (j : Nat) t v, Tryz.f3.params[j]? = some t → args[j]? = some v → Value.okWide Tryz.prog W .any base t v)
  (hW : DataW.Whole enc Tryz.prog Tryz.f3.params.toList Rows.gateNoneSpec.vars false W args.toList ds gs before) (hL : laidMetH Tryz.prog Rows.gateNoneRow.laid W)
  (hsz0 : (DataW.weightsEach Tryz.prog (Tryz.f3.params.toList ++ Rows.gateNoneSpec.plain.varTypes Tryz.prog) (ds ++ gs)).all (· ≤ reachBytes) = true) :
  Calls Tryz.prog 3 args W fun e W' => ∃ v, e = .returned v ∧ Rows.gateNoneSpec.post enc Tryz.prog Tryz.f3 false true false false W args v W' := by
 have hT : Tb W := tb_of_laid2 hL
 have hz : Dz W := dz_of_laid2 hL
 have hval : ∀ (j : Nat) t v, Tryz.f3.params[j]? = some t → args[j]? = some v → Value.okWide Tryz.prog W .any base t v := hval0
 have hW' := hW
 obtain ⟨p, q, hA0, hV, rfl, hfz, hnd⟩ := hW
 have hA : DataW.TrodAll enc Tryz.prog W 0 (fun _ => true) true Tryz.f3.params.toList args.toList ds p := hA0
 have hsz := hsz0
 rw [Tryz.params3] at hA hval hsz
 obtain ⟨v0, vs0, d0, ds0, p0, q0, hargs, rfl, rfl, h0, r0⟩ := trodAll_cons hA
 obtain ⟨v1, vs1, d1, ds1, p1, q1, rfl, rfl, rfl, h1, r1⟩ := trodAll_cons r0
 obtain ⟨v2, vs2, d2, ds2, p2, q2, rfl, rfl, rfl, h2, r2⟩ := trodAll_cons r1
 obtain ⟨rfl, rfl, rfl⟩ := trodAll_nil r2
 obtain rfl : args = #[v0, v1, v2] := by cases args; simp_all
 obtain ⟨rfl, rfl⟩ := trodVars_none hV
 have k0 := h0
 have lt0 : ∀ x ∈ p0, x.block < W.heap.size := by obtain ⟨m, hm⟩ := k0; exact DataW.trod_lt m _ _ _ hm
 obtain ⟨x0, rfl, w0⟩ := open_op16 (hval 0 30 v0 rfl rfl) h0
 obtain ⟨a1, rfl, rfl, rfl, w1⟩ := open_int Tryz.underlying26 (hval 1 26 v1 rfl rfl) h1
 have b1 : 0 ≤ a1 ∧ a1 ≤ 65535 := by simpa [Lit.wf, IntKind.min, IntKind.max, IntKind.signed, IntKind.bits] using w1
 obtain ⟨a2, rfl, rfl, rfl, w2⟩ := open_int Tryz.underlying26 (hval 2 26 v2 rfl rfl) h2
 have b2 : 0 ≤ a2 ∧ a2 ≤ 65535 := by simpa [Lit.wf, IntKind.min, IntKind.max, IntKind.signed, IntKind.bits] using w2
 clear hA0 hval0
 refine (walk_GateNone W hT hz x0 w0 a1 b1 a2 b2).mono fun e W' ⟨he, bel⟩ => ?_
 subst he
 exact ⟨_, rfl, _, _, _, [], _, [], hW', trodAll_mk1 (shut_bool Tryz.underlying4 _), (trodAll_cons_mk (Below.trod laidOut (by kernel_rfl) (of_decide_eq_true (by kernel_rfl)) k0 bel lt0) (trodAll_cons_mk (shut_int Tryz.underlying26 w1) (trodAll_cons_mk (shut_int Tryz.underlying26 w2) trodAll_mk0))), rfl, bel.frame _, fun h => by cases h⟩

theorem reads (os : Os) {H : Type} (enc : TypeId × Value → H) : ∃ places, DataW.whole enc Tryz.prog ((laidWorld2 os).forCall (fun _ _ => 0) ⟨#[], #[.agg #[.int .i64 0, .int .i64 0, .slice none 0 0, .int .i64 0, .int .u8 0, .int .u32 0, .int .i64 0, .int .u32 0, .int .u16 0, .int .u32 0, .int .u16 0, .int .i64 0], .int .u16 0, .int .u16 0], []⟩).memory Tryz.f3.params.toList Rows.gateNoneSpec.vars false #[(.agg #[.int .i64 0, .int .i64 0, .slice none 0 0, .int .i64 0, .int .u8 0, .int .u32 0, .int .i64 0, .int .u32 0, .int .u16 0, .int .u32 0, .int .u16 0, .int .i64 0] : Value), .int .u16 0, .int .u16 0].toList 8 = some ([.agg [.lit (.int .i64 0), .lit (.int .i64 0), .nil, .agg [.lit (.int .i64 0), .lit (.int .u8 0), .lit (.int .u32 0), .lit (.int .i64 0), .lit (.int .u32 0), .lit (.int .u16 0), .lit (.int .u32 0), .lit (.int .u16 0)], .lit (.int .i64 0)], .lit (.int .u16 0), .lit (.int .u16 0)], [], places) :=
 ⟨[], by kernel_rfl⟩

set_option maxRecDepth 100000 in
set_option maxHeartbeats 2000000 in
theorem lifted (os : Os) (started : os.Started) (H : Type) (enc : TypeId × Value → H) (F : Stop.Interp) :
  ReturnsInHanded {} Tryz.checked os 3 .any ((OpenSpec.ofChange Rows.gateNoneSpec).preRow enc Tryz.prog Tryz.f3 Rows.gateNoneRow.domain false Rows.gateNoneRow.laid) (((OpenSpec.ofChange Rows.gateNoneSpec).at F).post enc Tryz.prog Tryz.f3 false true false false) := by
 obtain ⟨places, hx⟩ := reads os enc
 refine returnsInHanded_of_row (C := Tryz.checked) (s := OpenSpec.ofChange Rows.gateNoneSpec) own started (by kernel_rfl) Tryz.func3
  (witness_row_at (enc := enc) (C := Tryz.checked) false (laidWorld2 os) #[.agg #[.int .i64 0, .int .i64 0, .slice none 0 0, .int .i64 0, .int .u8 0, .int .u32 0, .int .i64 0, .int .u32 0, .int .u16 0, .int .u32 0, .int .u16 0, .int .i64 0], .int .u16 0, .int .u16 0] rfl (by kernel_rfl) (by kernel_rfl) (by kernel_rfl)
   (OpenSpec.preRow_of_cond 8 hx (by kernel_rfl) (fun k hk => by cases hk) (by kernel_rfl) (laid_met2 os _))) ?_
 intro W base args ds gs before hval hW _ hcond hsz hL _ _
 exact contract H enc W base args ds gs before hval hW hL hsz

theorem b2 {a b : Bool} (h1 : a = true) (h2 : b = true) : (a && b) = true := by rw [h1, h2]; rfl
theorem closed : joinedFacts Tryz.pinned.checked.prog 3 Tryz.f3 (OpenSpec.ofChange Rows.gateNoneSpec).bare Rows.gateNoneRow = true := by
 unfold joinedFacts
 exact b2 (b2 (b2 (b2 (b2 (b2 (b2 (b2 (b2 (b2 (b2 (b2 (b2 (b2 (b2 (b2 (b2 (b2 (b2 (b2 (b2 (b2 (b2 (b2 (b2 (b2 (b2 (b2 (b2 (b2 (b2 gateNone_fk0 gateNone_fk1) gateNone_fk2) gateNone_fk3) gateNone_fk4) gateNone_fk5) gateNone_fk6) gateNone_fk7) gateNone_fk8) gateNone_fk9) gateNone_fk10) gateNone_fk11) gateNone_fk12) gateNone_fk13) gateNone_fk14) gateNone_fk15) gateNone_fk16) gateNone_fk17) gateNone_fk18) gateNone_fk19) gateNone_fk20) gateNone_fk21) gateNone_fk22) gateNone_fk23) gateNone_fk24) gateNone_fk25) gateNone_fk26) gateNone_fk27) gateNone_fk28) gateNone_fk29) gateNone_fk30) gateNone_fk31

set_option maxHeartbeats 2000000 in
theorem said : Rows.GateNoneSaid :=
 OpenClaim.holds_of_cond 3 Tryz.f3 rfl rfl rfl rfl rfl rfl rfl ⟨rfl, rfl, rfl, rfl, rfl⟩ rfl rfl rfl rfl rfl gateNone_named Tryz.func3 closed
  gateNone_inst (by unfold Func.isWrapper; first | (rw [if_pos (by decide +kernel)]; kernel_rfl) | (rw [if_neg (by decide +kernel)]; exact ⟨rfl, rfl⟩))
  (fun os started H enc _ F => by rw [OpenClaim.pre_eq_preRow]; exact lifted os started H enc F)

theorem plain (f : FuncId) (fn : Func) (hf : Tryz.pinned.checked.prog.funcNamed "lychgate/lychgatelaw16.GateNone" = some f) (hfn : Tryz.pinned.checked.prog.funcs[f]? = some fn) :
  true = Tryz.pinned.checked.prog.looks [] ∧ ∀ (j : Nat) t, fn.params[j]? = some t → Tryz.pinned.checked.prog.wantsStandIn t = false := by
 obtain rfl : f = 3 := Option.some.inj (gateNone_named.symm.trans hf) |>.symm
 obtain rfl : fn = Tryz.f3 := (Option.some.inj (Tryz.func3.symm.trans hfn)).symm
 refine ⟨gateNone_looks, fun j t ht => ?_⟩
 rw [Tryz.params3] at ht
 have hm : t ∈ [30, 26, 26] := by simpa using Array.mem_of_getElem? ht
 have hall : ([30, 26, 26].all fun t => Tryz.prog.wantsStandIn t == false) = true := by kernel_rfl
 exact (show Tryz.prog.wantsStandIn t = false by simpa using List.all_eq_true.1 hall t hm)

theorem card : Rows.GateNoneCardSaid :=
 Claim7.holds_tied_plain_at .later [] _ _ _ _ said (fun _ h => by cases h) gateNone_text (fun _ h => by cases h) gateNone_row_tie rfl ⟨rfl, rfl⟩ gateNone_main rfl plain gateNone_goes
end Go.Proofs.YtnffjilmkpbelaaGreatDoor.gateNone

namespace Go.Proofs.YtnffjilmkpbelaaGreatDoor
theorem proved_GateNone : Rows.GateNoneCardSaid := gateNone.card
#print axioms proved_GateNone
end Go.Proofs.YtnffjilmkpbelaaGreatDoor
