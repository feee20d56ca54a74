import Derived.Test.YtofknbfbmaefoaaGreatDoorTe
import Derived.Test.YtofknbfbmaefoaaGreatDoorOp2
import Derived.Test.YtofknbfbmaefoaaGreatDoorPFaTU
import Derived.Test.YtofknbfbmaefoaaGreatDoorPFbTU
import Derived.Test.YtofknbfbmaefoaaGreatDoorPFcTU
import Derived.Test.YtofknbfbmaefoaaGreatDoorPFdTU
import Derived.Test.YtofknbfbmaefoaaGreatDoorPFeTU
import Derived.Test.YtofknbfbmaefoaaGreatDoorPFfTU
import Derived.Test.YtofknbfbmaefoaaGreatDoorPFgTU
import Derived.Test.YtofknbfbmaefoaaGreatDoorPFhTU
import Derived.Test.YtofknbfbmaefoaaGreatDoorPFiTU
import Derived.Test.YtofknbfbmaefoaaGreatDoorPFjTU
import Derived.Test.YtofknbfbmaefoaaGreatDoorPFkTU
import Derived.Test.YtofknbfbmaefoaaGreatDoorOp
import Derived.Test.YtofknbfbmaefoaaGreatDoorTUw
import Derived.ShutString
import Derived.ChangeOld
import Derived.Below
namespace Go.Proofs.YtofknbfbmaefoaaGreatDoor.topUnreached
open Go.ChangeShapes Go.WideShapes Go.ChangeAt Go.RowKit
set_option maxRecDepth 100000
set_option linter.unusedVariables false
set_option linter.unusedSimpArgs false
theorem own : ownKnob Tryz.prog.godebug = none := by kernel_rfl
theorem laidOut : laidOutB Tryz.prog = true := by kernel_rfl
theorem contract (H : Type) (enc : TypeId × Value → H) (W : World) (base : Nat) (args : Array Value) (ds gs : List (DataW H)) (before : List MemPlace)
  (hval0 : ∀ (j : Nat) t v, Tryz.f5.params[j]? = some t → args[j]? = some v → Value.okWide Tryz.prog W .any base t v)
  (hW : DataW.Whole enc Tryz.prog Tryz.f5.params.toList Rows.topUnreachedSpec.vars false W args.toList ds gs before) (hL : laidMetH Tryz.prog Rows.topUnreachedRow.laid W)
  (hsz0 : (DataW.weightsEach Tryz.prog (Tryz.f5.params.toList ++ Rows.topUnreachedSpec.plain.varTypes Tryz.prog) (ds ++ gs)).all (· ≤ reachBytes) = true) :
  Calls Tryz.prog 5 args W fun e W' => ∃ v, e = .returned v ∧ Rows.topUnreachedSpec.post enc Tryz.prog Tryz.f5 false true false false W args v W' := by
 have hT : Tb W := tb_of_laid2 hL
 have hz : Dz W := dz_of_laid2 hL
 have hval : ∀ (j : Nat) t v, Tryz.f5.params[j]? = some t → args[j]? = some v → Value.okWide Tryz.prog W .any base t v := hval0
 have hW' := hW
 obtain ⟨p, q, hA0, hV, rfl, hfz, hnd⟩ := hW
 have hA : DataW.TrodAll enc Tryz.prog W 0 (fun _ => true) true Tryz.f5.params.toList args.toList ds p := hA0
 have hsz := hsz0
 rw [Tryz.params5] at hA hval hsz
 obtain ⟨v0, vs0, d0, ds0, p0, q0, hargs, rfl, rfl, h0, r0⟩ := trodAll_cons hA
 obtain ⟨v1, vs1, d1, ds1, p1, q1, rfl, rfl, rfl, h1, r1⟩ := trodAll_cons r0
 obtain ⟨rfl, rfl, rfl⟩ := trodAll_nil r1
 obtain rfl : args = #[v0, v1] := by cases args; simp_all
 obtain ⟨rfl, rfl⟩ := trodVars_none hV
 have k0 := h0
 have lt0 : ∀ x ∈ p0, x.block < W.heap.size := by obtain ⟨m, hm⟩ := k0; exact DataW.trod_lt m _ _ _ hm
 obtain ⟨x0, y0, rfl, bx0, by0⟩ := open_arr2 Tryz.underlying53 Tryz.underlying22 (by kernel_rfl) (by kernel_rfl) (hval 0 53 v0 rfl rfl) h0
 obtain ⟨a1, rfl, rfl, rfl, w1⟩ := open_int Tryz.underlying33 (hval 1 33 v1 rfl rfl) h1
 have b1 : 0 ≤ a1 ∧ a1 ≤ 4294967295 := by simpa [Lit.wf, IntKind.min, IntKind.max, IntKind.signed, IntKind.bits] using w1
 clear hA0 hval0
 refine (walk_TopUnreached W hT hz x0 bx0 y0 by0 a1 b1).mono fun e W' ⟨he, bel⟩ => ?_
 subst he
 exact ⟨_, rfl, _, _, _, [], _, [], hW', trodAll_mk1 (shut_bool Tryz.underlying4 _), (trodAll_cons_mk (Below.trod laidOut (by kernel_rfl) (of_decide_eq_true (by kernel_rfl)) k0 bel lt0) (trodAll_cons_mk (shut_int Tryz.underlying33 w1) trodAll_mk0)), rfl, bel.frame _, fun h => by cases h⟩
theorem reads (os : Os) {H : Type} (enc : TypeId × Value → H) : ∃ places, DataW.whole enc Tryz.prog ((laidWorld2 os).forCall (fun _ _ => 0) ⟨#[], #[.agg #[.int .u16 0, .int .u16 0], .int .u32 0], []⟩).memory Tryz.f5.params.toList Rows.topUnreachedSpec.vars false #[(.agg #[.int .u16 0, .int .u16 0] : Value), .int .u32 0].toList 8 = some ([.agg [.lit (.int .u16 0), .lit (.int .u16 0)], .lit (.int .u32 0)], [], places) :=
 ⟨[], by kernel_rfl⟩
set_option maxRecDepth 100000 in
set_option maxHeartbeats 2000000 in
theorem lifted (os : Os) (started : os.Started) (H : Type) (enc : TypeId × Value → H) (F : Stop.Interp) :
  ReturnsInHanded {} Tryz.checked os 5 .any ((OpenSpec.ofChange Rows.topUnreachedSpec).preRow enc Tryz.prog Tryz.f5 Rows.topUnreachedRow.domain false Rows.topUnreachedRow.laid) (((OpenSpec.ofChange Rows.topUnreachedSpec).at F).post enc Tryz.prog Tryz.f5 false true false false) := by
 obtain ⟨places, hx⟩ := reads os enc
 refine returnsInHanded_of_row (C := Tryz.checked) (s := OpenSpec.ofChange Rows.topUnreachedSpec) own started (by kernel_rfl) Tryz.func5
  (witness_row_at (enc := enc) (C := Tryz.checked) false (laidWorld2 os) #[.agg #[.int .u16 0, .int .u16 0], .int .u32 0] rfl (by kernel_rfl) (by kernel_rfl) (by kernel_rfl)
   (OpenSpec.preRow_of_cond 8 hx (by kernel_rfl) (fun k hk => by cases hk) (by kernel_rfl) (laid_met2 os _))) ?_
 intro W base args ds gs before hval hW _ hcond hsz hL _ _
 exact contract H enc W base args ds gs before hval hW hL hsz
theorem b2 {a b : Bool} (h1 : a = true) (h2 : b = true) : (a && b) = true := by rw [h1, h2]; rfl
theorem closed : joinedFacts Tryz.pinned.checked.prog 5 Tryz.f5 (OpenSpec.ofChange Rows.topUnreachedSpec).bare Rows.topUnreachedRow = true := by
 unfold joinedFacts
 exact b2 (b2 (b2 (b2 (b2 (b2 (b2 (b2 (b2 (b2 (b2 (b2 (b2 (b2 (b2 (b2 (b2 (b2 (b2 (b2 (b2 (b2 (b2 (b2 (b2 (b2 (b2 (b2 (b2 (b2 (b2 topUnreached_fk0 topUnreached_fk1) topUnreached_fk2) topUnreached_fk3) topUnreached_fk4) topUnreached_fk5) topUnreached_fk6) topUnreached_fk7) topUnreached_fk8) topUnreached_fk9) topUnreached_fk10) topUnreached_fk11) topUnreached_fk12) topUnreached_fk13) topUnreached_fk14) topUnreached_fk15) topUnreached_fk16) topUnreached_fk17) topUnreached_fk18) topUnreached_fk19) topUnreached_fk20) topUnreached_fk21) topUnreached_fk22) topUnreached_fk23) topUnreached_fk24) topUnreached_fk25) topUnreached_fk26) topUnreached_fk27) topUnreached_fk28) topUnreached_fk29) topUnreached_fk30) topUnreached_fk31
set_option maxHeartbeats 2000000 in
theorem said : Rows.TopUnreachedSaid :=
 OpenClaim.holds_of_cond 5 Tryz.f5 rfl rfl rfl rfl rfl rfl rfl ⟨rfl, rfl, rfl, rfl, rfl⟩ rfl rfl rfl rfl rfl topUnreached_named Tryz.func5 closed
  topUnreached_inst (by unfold Func.isWrapper; first | (rw [if_pos (by decide +kernel)]; kernel_rfl) | (rw [if_neg (by decide +kernel)]; exact ⟨rfl, rfl⟩))
  (fun os started H enc _ F => by rw [OpenClaim.pre_eq_preRow]; exact lifted os started H enc F)
theorem plain (f : FuncId) (fn : Func) (hf : Tryz.pinned.checked.prog.funcNamed "lychgate/lychgatetop.TopUnreached" = some f) (hfn : Tryz.pinned.checked.prog.funcs[f]? = some fn) :
  true = Tryz.pinned.checked.prog.looks [] ∧ ∀ (j : Nat) t, fn.params[j]? = some t → Tryz.pinned.checked.prog.wantsStandIn t = false := by
 obtain rfl : f = 5 := Option.some.inj (topUnreached_named.symm.trans hf) |>.symm
 obtain rfl : fn = Tryz.f5 := (Option.some.inj (Tryz.func5.symm.trans hfn)).symm
 refine ⟨topUnreached_looks, fun j t ht => ?_⟩
 rw [Tryz.params5] at ht
 have hm : t ∈ [53, 33] := by simpa using Array.mem_of_getElem? ht
 have hall : ([53, 33].all fun t => Tryz.prog.wantsStandIn t == false) = true := by kernel_rfl
 exact (show Tryz.prog.wantsStandIn t = false by simpa using List.all_eq_true.1 hall t hm)
theorem card : Rows.TopUnreachedCardSaid :=
 Claim7.holds_tied_plain_at .later [] _ _ _ _ said (fun _ h => by cases h) topUnreached_text (fun _ h => by cases h) topUnreached_row_tie rfl ⟨rfl, rfl⟩ topUnreached_main rfl plain topUnreached_goes
end Go.Proofs.YtofknbfbmaefoaaGreatDoor.topUnreached
namespace Go.Proofs.YtofknbfbmaefoaaGreatDoor
theorem proved_TopUnreached : Rows.TopUnreachedCardSaid := topUnreached.card
#print axioms proved_TopUnreached
end Go.Proofs.YtofknbfbmaefoaaGreatDoor
