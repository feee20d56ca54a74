import Derived.Test.YtofknbfbmaefoaaGreatDoorTe
import Derived.Test.YtofknbfbmaefoaaGreatDoorOp2
import Derived.Test.YtofknbfbmaefoaaGreatDoorOpX
import Derived.Test.YtofknbfbmaefoaaGreatDoorPFaGR
import Derived.Test.YtofknbfbmaefoaaGreatDoorPFbGR
import Derived.Test.YtofknbfbmaefoaaGreatDoorPFcGR
import Derived.Test.YtofknbfbmaefoaaGreatDoorPFdGR
import Derived.Test.YtofknbfbmaefoaaGreatDoorPFeGR
import Derived.Test.YtofknbfbmaefoaaGreatDoorPFfGR
import Derived.Test.YtofknbfbmaefoaaGreatDoorPFgGR
import Derived.Test.YtofknbfbmaefoaaGreatDoorPFhGR
import Derived.Test.YtofknbfbmaefoaaGreatDoorPFiGR
import Derived.Test.YtofknbfbmaefoaaGreatDoorPFjGR
import Derived.Test.YtofknbfbmaefoaaGreatDoorPFkGR
import Derived.Test.YtofknbfbmaefoaaGreatDoorGnc
import Derived.ShutString
import Derived.ChangeOld
import Derived.Below
namespace Go.Proofs.YtofknbfbmaefoaaGreatDoor.gateRules
open Go.ChangeShapes Go.WideShapes Go.ChangeAt Go.RowKit
set_option maxRecDepth 100000
set_option linter.unusedVariables false
set_option linter.unusedSimpArgs false
theorem own : ownKnob Tryz.prog.godebug = none := by kernel_rfl
theorem laidOut : laidOutB Tryz.prog = true := by kernel_rfl
theorem contract (H : Type) (enc : TypeId × Value → H) (W : World) (base : Nat) (args : Array Value) (ds gs : List (DataW H)) (before : List MemPlace)
  (hval0 : ∀ (j : Nat) t v, Tryz.f3.params[j]? = some t → args[j]? = some v → Value.okWide Tryz.prog W .any base t v)
  (hW : DataW.Whole enc Tryz.prog Tryz.f3.params.toList Rows.gateRulesSpec.vars false W args.toList ds gs before) (hL : laidMetH Tryz.prog Rows.gateRulesRow.laid W)
  (hsz0 : (DataW.weightsEach Tryz.prog (Tryz.f3.params.toList ++ Rows.gateRulesSpec.plain.varTypes Tryz.prog) (ds ++ gs)).all (· ≤ reachBytes) = true) :
  Calls Tryz.prog 3 args W fun e W' => ∃ v, e = .returned v ∧ Rows.gateRulesSpec.post enc Tryz.prog Tryz.f3 false true false false W args v W' := by
 have hT : Tb W := tb_of_laid2 hL
 have hz : Dz W := dz_of_laid2 hL
 have hval : ∀ (j : Nat) t v, Tryz.f3.params[j]? = some t → args[j]? = some v → Value.okWide Tryz.prog W .any base t v := hval0
 have hW' := hW
 obtain ⟨p, q, hA0, hV, rfl, hfz, hnd⟩ := hW
 have hA : DataW.TrodAll enc Tryz.prog W 0 (fun _ => true) true Tryz.f3.params.toList args.toList ds p := hA0
 have hsz := hsz0
 rw [Tryz.params3] at hA hval hsz
 obtain ⟨v0, vs0, d0, ds0, p0, q0, hargs, rfl, rfl, h0, r0⟩ := trodAll_cons hA
 obtain ⟨rfl, rfl, rfl⟩ := trodAll_nil r0
 obtain rfl : args = #[v0] := by cases args; simp_all
 obtain ⟨rfl, rfl⟩ := trodVars_none hV
 have k0 := h0
 have lt0 : ∀ x ∈ p0, x.block < W.heap.size := by obtain ⟨m, hm⟩ := k0; exact DataW.trod_lt m _ _ _ hm
 obtain ⟨x0, y0, s0, l0, rfl, bx0, by0, g0⟩ := open_script (hval 0 25 v0 rfl rfl) h0
 clear hA0 hval0
 refine (walk_GateRules W hT hz x0 y0 s0 l0 bx0 by0 g0).mono fun e W' ⟨he, bel⟩ => ?_
 subst he
 exact ⟨_, rfl, _, _, _, [], _, [], hW', trodAll_mk1 (shut_bool Tryz.underlying4 _), (trodAll_cons_mk (Below.trod laidOut (by kernel_rfl) (of_decide_eq_true (by kernel_rfl)) k0 bel lt0) trodAll_mk0), rfl, bel.frame _, fun h => by cases h⟩
theorem reads (os : Os) {H : Type} (enc : TypeId × Value → H) : ∃ places, DataW.whole enc Tryz.prog ((laidWorld2 os).forCall (fun _ _ => 0) ⟨#[], #[.agg #[.int .u16 0, .int .u16 0, .slice none 0 0]], []⟩).memory Tryz.f3.params.toList Rows.gateRulesSpec.vars false #[(.agg #[.int .u16 0, .int .u16 0, .slice none 0 0] : Value)].toList 8 = some ([.agg [.lit (.int .u16 0), .lit (.int .u16 0), .nil]], [], places) :=
 ⟨[], by kernel_rfl⟩
set_option maxRecDepth 100000 in
set_option maxHeartbeats 2000000 in
theorem lifted (os : Os) (started : os.Started) (H : Type) (enc : TypeId × Value → H) (F : Stop.Interp) :
  ReturnsInHanded {} Tryz.checked os 3 .any ((OpenSpec.ofChange Rows.gateRulesSpec).preRow enc Tryz.prog Tryz.f3 Rows.gateRulesRow.domain false Rows.gateRulesRow.laid) (((OpenSpec.ofChange Rows.gateRulesSpec).at F).post enc Tryz.prog Tryz.f3 false true false false) := by
 obtain ⟨places, hx⟩ := reads os enc
 refine returnsInHanded_of_row (C := Tryz.checked) (s := OpenSpec.ofChange Rows.gateRulesSpec) own started (by kernel_rfl) Tryz.func3
  (witness_row_at (enc := enc) (C := Tryz.checked) false (laidWorld2 os) #[.agg #[.int .u16 0, .int .u16 0, .slice none 0 0]] rfl (by kernel_rfl) (by kernel_rfl) (by kernel_rfl)
   (OpenSpec.preRow_of_cond 8 hx (by kernel_rfl) (fun k hk => by cases hk) (by kernel_rfl) (laid_met2 os _))) ?_
 intro W base args ds gs before hval hW _ hcond hsz hL _ _
 exact contract H enc W base args ds gs before hval hW hL hsz
theorem b2 {a b : Bool} (h1 : a = true) (h2 : b = true) : (a && b) = true := by rw [h1, h2]; rfl
theorem closed : joinedFacts Tryz.pinned.checked.prog 3 Tryz.f3 (OpenSpec.ofChange Rows.gateRulesSpec).bare Rows.gateRulesRow = true := by
 unfold joinedFacts
 exact b2 (b2 (b2 (b2 (b2 (b2 (b2 (b2 (b2 (b2 (b2 (b2 (b2 (b2 (b2 (b2 (b2 (b2 (b2 (b2 (b2 (b2 (b2 (b2 (b2 (b2 (b2 (b2 (b2 (b2 (b2 gateRules_fk0 gateRules_fk1) gateRules_fk2) gateRules_fk3) gateRules_fk4) gateRules_fk5) gateRules_fk6) gateRules_fk7) gateRules_fk8) gateRules_fk9) gateRules_fk10) gateRules_fk11) gateRules_fk12) gateRules_fk13) gateRules_fk14) gateRules_fk15) gateRules_fk16) gateRules_fk17) gateRules_fk18) gateRules_fk19) gateRules_fk20) gateRules_fk21) gateRules_fk22) gateRules_fk23) gateRules_fk24) gateRules_fk25) gateRules_fk26) gateRules_fk27) gateRules_fk28) gateRules_fk29) gateRules_fk30) gateRules_fk31
set_option maxHeartbeats 2000000 in
theorem said : Rows.GateRulesSaid :=
 OpenClaim.holds_of_cond 3 Tryz.f3 rfl rfl rfl rfl rfl rfl rfl ⟨rfl, rfl, rfl, rfl, rfl⟩ rfl rfl rfl rfl rfl gateRules_named Tryz.func3 closed
  gateRules_inst (by unfold Func.isWrapper; first | (rw [if_pos (by decide +kernel)]; kernel_rfl) | (rw [if_neg (by decide +kernel)]; exact ⟨rfl, rfl⟩))
  (fun os started H enc _ F => by rw [OpenClaim.pre_eq_preRow]; exact lifted os started H enc F)
theorem plain (f : FuncId) (fn : Func) (hf : Tryz.pinned.checked.prog.funcNamed "lychgate/lychgatelaw16.GateRules" = some f) (hfn : Tryz.pinned.checked.prog.funcs[f]? = some fn) :
  true = Tryz.pinned.checked.prog.looks [] ∧ ∀ (j : Nat) t, fn.params[j]? = some t → Tryz.pinned.checked.prog.wantsStandIn t = false := by
 obtain rfl : f = 3 := Option.some.inj (gateRules_named.symm.trans hf) |>.symm
 obtain rfl : fn = Tryz.f3 := (Option.some.inj (Tryz.func3.symm.trans hfn)).symm
 refine ⟨gateRules_looks, fun j t ht => ?_⟩
 rw [Tryz.params3] at ht
 have hm : t ∈ [25] := by simpa using Array.mem_of_getElem? ht
 have hall : ([25].all fun t => Tryz.prog.wantsStandIn t == false) = true := by kernel_rfl
 exact (show Tryz.prog.wantsStandIn t = false by simpa using List.all_eq_true.1 hall t hm)
theorem card : Rows.GateRulesCardSaid :=
 Claim7.holds_tied_plain_at .later [] _ _ _ _ said (fun _ h => by cases h) gateRules_text (fun _ h => by cases h) gateRules_row_tie rfl ⟨rfl, rfl⟩ gateRules_main rfl plain gateRules_goes
end Go.Proofs.YtofknbfbmaefoaaGreatDoor.gateRules
namespace Go.Proofs.YtofknbfbmaefoaaGreatDoor
theorem proved_GateRules : Rows.GateRulesCardSaid := gateRules.card
#print axioms proved_GateRules
end Go.Proofs.YtofknbfbmaefoaaGreatDoor
