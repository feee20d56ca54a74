import Derived.Test.YtofknbfbmaefoaaGreatDoorTe
import Derived.Test.YtofknbfbmaefoaaGreatDoorOp2
import Derived.Test.YtofknbfbmaefoaaGreatDoorPFaTF
import Derived.Test.YtofknbfbmaefoaaGreatDoorPFbTF
import Derived.Test.YtofknbfbmaefoaaGreatDoorPFcTF
import Derived.Test.YtofknbfbmaefoaaGreatDoorPFdTF
import Derived.Test.YtofknbfbmaefoaaGreatDoorPFeTF
import Derived.Test.YtofknbfbmaefoaaGreatDoorPFfTF
import Derived.Test.YtofknbfbmaefoaaGreatDoorPFgTF
import Derived.Test.YtofknbfbmaefoaaGreatDoorPFhTF
import Derived.Test.YtofknbfbmaefoaaGreatDoorPFiTF
import Derived.Test.YtofknbfbmaefoaaGreatDoorPFjTF
import Derived.Test.YtofknbfbmaefoaaGreatDoorPFkTF
import Derived.Test.YtofknbfbmaefoaaGreatDoorTFz
import Derived.ShutString
import Derived.ChangeOld
import Derived.Below
namespace Go.Proofs.YtofknbfbmaefoaaGreatDoor.topFull
open Go.ChangeShapes Go.WideShapes Go.ChangeAt Go.RowKit
set_option maxRecDepth 100000
set_option linter.unusedVariables false
set_option linter.unusedSimpArgs false
theorem own : ownKnob Tryz.prog.godebug = none := by kernel_rfl
theorem laidOut : laidOutB Tryz.prog = true := by kernel_rfl
theorem contract (H : Type) (enc : TypeId × Value → H) (W : World) (base : Nat) (args : Array Value) (ds gs : List (DataW H)) (before : List MemPlace)
  (hval0 : ∀ (j : Nat) t v, Tryz.f4.params[j]? = some t → args[j]? = some v → Value.okWide Tryz.prog W .any base t v)
  (hW : DataW.Whole enc Tryz.prog Tryz.f4.params.toList Rows.topFullSpec.vars false W args.toList ds gs before) (hL : laidMetH Tryz.prog Rows.topFullRow.laid W)
  (hsz0 : (DataW.weightsEach Tryz.prog (Tryz.f4.params.toList ++ Rows.topFullSpec.plain.varTypes Tryz.prog) (ds ++ gs)).all (· ≤ reachBytes) = true) :
  Calls Tryz.prog 4 args W fun e W' => ∃ v, e = .returned v ∧ Rows.topFullSpec.post enc Tryz.prog Tryz.f4 false true false false W args v W' := by
 have hT : Tb W := tb_of_laid2 hL
 have hz : Dz W := dz_of_laid2 hL
 have hval : ∀ (j : Nat) t v, Tryz.f4.params[j]? = some t → args[j]? = some v → Value.okWide Tryz.prog W .any base t v := hval0
 have hW' := hW
 obtain ⟨p, q, hA0, hV, rfl, hfz, hnd⟩ := hW
 have hA : DataW.TrodAll enc Tryz.prog W 0 (fun _ => true) true Tryz.f4.params.toList args.toList ds p := hA0
 have hsz := hsz0
 rw [Tryz.params4] at hA hval hsz
 obtain ⟨v0, vs0, d0, ds0, p0, q0, hargs, rfl, rfl, h0, r0⟩ := trodAll_cons hA
 obtain ⟨rfl, rfl, rfl⟩ := trodAll_nil r0
 obtain rfl : args = #[v0] := by cases args; simp_all
 obtain ⟨rfl, rfl⟩ := trodVars_none hV
 obtain ⟨a0, rfl, rfl, rfl, w0⟩ := open_int Tryz.underlying22 (hval 0 22 v0 rfl rfl) h0
 have b0 : 0 ≤ a0 ∧ a0 ≤ 65535 := by simpa [Lit.wf, IntKind.min, IntKind.max, IntKind.signed, IntKind.bits] using w0
 clear hA0 hval0
 refine (walk_TopFull W hT hz a0 b0).mono fun e W' ⟨he, bel⟩ => ?_
 subst he
 exact ⟨_, rfl, _, _, _, [], _, [], hW', trodAll_mk1 (shut_bool Tryz.underlying4 _), (trodAll_cons_mk (shut_int Tryz.underlying22 w0) trodAll_mk0), rfl, bel.frame _, fun h => by cases h⟩
theorem reads (os : Os) {H : Type} (enc : TypeId × Value → H) : ∃ places, DataW.whole enc Tryz.prog ((laidWorld2 os).forCall (fun _ _ => 0) ⟨#[], #[.int .u16 0], []⟩).memory Tryz.f4.params.toList Rows.topFullSpec.vars false #[(.int .u16 0 : Value)].toList 8 = some ([.lit (.int .u16 0)], [], places) :=
 ⟨[], by kernel_rfl⟩
set_option maxRecDepth 100000 in
set_option maxHeartbeats 2000000 in
theorem lifted (os : Os) (started : os.Started) (H : Type) (enc : TypeId × Value → H) (F : Stop.Interp) :
  ReturnsInHanded {} Tryz.checked os 4 .any ((OpenSpec.ofChange Rows.topFullSpec).preRow enc Tryz.prog Tryz.f4 Rows.topFullRow.domain false Rows.topFullRow.laid) (((OpenSpec.ofChange Rows.topFullSpec).at F).post enc Tryz.prog Tryz.f4 false true false false) := by
 obtain ⟨places, hx⟩ := reads os enc
 refine returnsInHanded_of_row (C := Tryz.checked) (s := OpenSpec.ofChange Rows.topFullSpec) own started (by kernel_rfl) Tryz.func4
  (witness_row_at (enc := enc) (C := Tryz.checked) false (laidWorld2 os) #[.int .u16 0] rfl (by kernel_rfl) (by kernel_rfl) (by kernel_rfl)
   (OpenSpec.preRow_of_cond 8 hx (by kernel_rfl) (fun k hk => by cases hk) (by kernel_rfl) (laid_met2 os _))) ?_
 intro W base args ds gs before hval hW _ hcond hsz hL _ _
 exact contract H enc W base args ds gs before hval hW hL hsz
theorem b2 {a b : Bool} (h1 : a = true) (h2 : b = true) : (a && b) = true := by rw [h1, h2]; rfl
theorem closed : joinedFacts Tryz.pinned.checked.prog 4 Tryz.f4 (OpenSpec.ofChange Rows.topFullSpec).bare Rows.topFullRow = true := by
 unfold joinedFacts
 exact b2 (b2 (b2 (b2 (b2 (b2 (b2 (b2 (b2 (b2 (b2 (b2 (b2 (b2 (b2 (b2 (b2 (b2 (b2 (b2 (b2 (b2 (b2 (b2 (b2 (b2 (b2 (b2 (b2 (b2 (b2 topFull_fk0 topFull_fk1) topFull_fk2) topFull_fk3) topFull_fk4) topFull_fk5) topFull_fk6) topFull_fk7) topFull_fk8) topFull_fk9) topFull_fk10) topFull_fk11) topFull_fk12) topFull_fk13) topFull_fk14) topFull_fk15) topFull_fk16) topFull_fk17) topFull_fk18) topFull_fk19) topFull_fk20) topFull_fk21) topFull_fk22) topFull_fk23) topFull_fk24) topFull_fk25) topFull_fk26) topFull_fk27) topFull_fk28) topFull_fk29) topFull_fk30) topFull_fk31
set_option maxHeartbeats 2000000 in
theorem said : Rows.TopFullSaid :=
 OpenClaim.holds_of_cond 4 Tryz.f4 rfl rfl rfl rfl rfl rfl rfl ⟨rfl, rfl, rfl, rfl, rfl⟩ rfl rfl rfl rfl rfl topFull_named Tryz.func4 closed
  topFull_inst (by unfold Func.isWrapper; first | (rw [if_pos (by decide +kernel)]; kernel_rfl) | (rw [if_neg (by decide +kernel)]; exact ⟨rfl, rfl⟩))
  (fun os started H enc _ F => by rw [OpenClaim.pre_eq_preRow]; exact lifted os started H enc F)
theorem plain (f : FuncId) (fn : Func) (hf : Tryz.pinned.checked.prog.funcNamed "lychgate/lychgatetop.TopFull" = some f) (hfn : Tryz.pinned.checked.prog.funcs[f]? = some fn) :
  true = Tryz.pinned.checked.prog.looks [] ∧ ∀ (j : Nat) t, fn.params[j]? = some t → Tryz.pinned.checked.prog.wantsStandIn t = false := by
 obtain rfl : f = 4 := Option.some.inj (topFull_named.symm.trans hf) |>.symm
 obtain rfl : fn = Tryz.f4 := (Option.some.inj (Tryz.func4.symm.trans hfn)).symm
 refine ⟨topFull_looks, fun j t ht => ?_⟩
 rw [Tryz.params4] at ht
 have hm : t ∈ [22] := by simpa using Array.mem_of_getElem? ht
 have hall : ([22].all fun t => Tryz.prog.wantsStandIn t == false) = true := by kernel_rfl
 exact (show Tryz.prog.wantsStandIn t = false by simpa using List.all_eq_true.1 hall t hm)
theorem card : Rows.TopFullCardSaid :=
 Claim7.holds_tied_plain_at .later [] _ _ _ _ said (fun _ h => by cases h) topFull_text (fun _ h => by cases h) topFull_row_tie rfl ⟨rfl, rfl⟩ topFull_main rfl plain topFull_goes
end Go.Proofs.YtofknbfbmaefoaaGreatDoor.topFull
namespace Go.Proofs.YtofknbfbmaefoaaGreatDoor
theorem proved_TopFull : Rows.TopFullCardSaid := topFull.card
#print axioms proved_TopFull
end Go.Proofs.YtofknbfbmaefoaaGreatDoor
