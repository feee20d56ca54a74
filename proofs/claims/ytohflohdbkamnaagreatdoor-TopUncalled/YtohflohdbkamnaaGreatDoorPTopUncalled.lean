/- At every input TopUncalled returns true, and its arguments read as before, as long as package ctrl's table and the library's table of places hold what the program's text lays there (the card ties it). -/
import Derived.Test.YtohflohdbkamnaaGreatDoorTe
import Derived.Test.YtohflohdbkamnaaGreatDoorOp2
import Derived.Test.YtohflohdbkamnaaGreatDoorDM
import Derived.Test.YtohflohdbkamnaaGreatDoorPFa
import Derived.Test.YtohflohdbkamnaaGreatDoorPFb
import Derived.Test.YtohflohdbkamnaaGreatDoorPFc
import Derived.Test.YtohflohdbkamnaaGreatDoorPFd
import Derived.Test.YtohflohdbkamnaaGreatDoorPFe
import Derived.Test.YtohflohdbkamnaaGreatDoorPFf
import Derived.Test.YtohflohdbkamnaaGreatDoorPFg
import Derived.Test.YtohflohdbkamnaaGreatDoorPFh
import Derived.Test.YtohflohdbkamnaaGreatDoorPFi
import Derived.Test.YtohflohdbkamnaaGreatDoorPFj
import Derived.Test.YtohflohdbkamnaaGreatDoorPFk
import Derived.ShutString
import Derived.ChangeOld
import Derived.Below
namespace Go.Proofs.YtohflohdbkamnaaGreatDoor.topUncalled
open Go.ChangeShapes Go.WideShapes Go.ChangeAt Go.RowKit
set_option maxRecDepth 100000
set_option linter.unusedVariables false
set_option linter.unusedSimpArgs false

theorem own : ownKnob Tryz.prog.godebug = none := by kernel_rfl
theorem laidOut : laidOutB Tryz.prog = true := by kernel_rfl

theorem contract (H : Type) (enc : TypeId × Value → H) (W : World) (base : Nat) (args : Array Value) (ds gs : List (DataW H)) (before : List MemPlace)
    (hval0 : ∀ (j : Nat) t v, Tryz.f5.params[j]? = some t → args[j]? = some v → Value.okWide Tryz.prog W .any base t v)
    (hW : DataW.Whole enc Tryz.prog Tryz.f5.params.toList Rows.topUncalledSpec.vars false W args.toList ds gs before) (hL : laidMetH Tryz.prog Rows.topUncalledRow.laid W)
    (hsz0 : (DataW.weightsEach Tryz.prog (Tryz.f5.params.toList ++ Rows.topUncalledSpec.plain.varTypes Tryz.prog) (ds ++ gs)).all (· ≤ reachBytes) = true) :
    Calls Tryz.prog 5 args W fun e W' => ∃ v, e = .returned v ∧ Rows.topUncalledSpec.post enc Tryz.prog Tryz.f5 false true false false W args v W' := by
  have hT : Tb W := tb_of_laid2 hL
  have hz : Dz W := dz_of_laid2 hL
  have hval : ∀ (j : Nat) t v, Tryz.f5.params[j]? = some t → args[j]? = some v → Value.okWide Tryz.prog W .any base t v := hval0
  have hW' := hW
  obtain ⟨p, q, hA0, hV, rfl, hfz, hnd⟩ := hW
  have hA : DataW.TrodAll enc Tryz.prog W 0 (fun _ => true) true Tryz.f5.params.toList args.toList ds p := hA0
  have hsz := hsz0
  rw [Tryz.params5] at hA hval hsz
  obtain ⟨v0, vs0, d0, ds0, p0, q0, hargs, rfl, rfl, h0, r0⟩ := trodAll_cons hA
  obtain ⟨rfl, rfl, rfl⟩ := trodAll_nil r0
  obtain rfl : args = #[v0] := by cases args; simp_all
  obtain ⟨rfl, rfl⟩ := trodVars_none hV
  have k0 := h0
  have lt0 : ∀ x ∈ p0, x.block < W.heap.size := by obtain ⟨m, hm⟩ := k0; exact DataW.trod_lt m _ _ _ hm
  obtain ⟨a0, len0, cap0, rfl⟩ := okWide_slice Tryz.underlying23 (hval 0 23 v0 rfl rfl)
  obtain ⟨fuel0, hf0⟩ := h0
  obtain ⟨z0, b0, g0, ww0⟩ := open_bytes (c := .slice a0 len0 cap0) (by simpa [Value.cells] using hf0)
  have sz0 := ww0 (by simp only [List.cons_append, List.nil_append, List.append_nil, DataW.weightsEach, List.all_append, Bool.and_eq_true] at hsz; exact hsz.1)
  clear hA0 hval0
  refine (walk_TopUncalled W hT hz _ z0 b0 g0 sz0).mono fun e W' ⟨he, bel⟩ => ?_
  subst he
  exact ⟨_, rfl, _, _, _, [], _, [], hW', trodAll_mk1 (shut_bool Tryz.underlying4 _), (trodAll_cons_mk (Below.trod laidOut (by kernel_rfl) (of_decide_eq_true (by kernel_rfl)) k0 bel lt0) trodAll_mk0), rfl, bel.frame _, fun h => by cases h⟩

theorem reads (os : Os) {H : Type} (enc : TypeId × Value → H) : ∃ places, DataW.whole enc Tryz.prog ((laidWorld2 os).forCall (fun _ _ => 0) ⟨#[], #[.slice none 0 0], []⟩).memory Tryz.f5.params.toList Rows.topUncalledSpec.vars false #[(.slice none 0 0 : Value)].toList 8 = some ([.nil], [], places) :=
  ⟨[], by kernel_rfl⟩

set_option maxRecDepth 100000 in
set_option maxHeartbeats 2000000 in
theorem lifted (os : Os) (started : os.Started) (H : Type) (enc : TypeId × Value → H) (F : Stop.Interp) :
    ReturnsInHanded {} Tryz.checked os 5 .any ((OpenSpec.ofChange Rows.topUncalledSpec).preRow enc Tryz.prog Tryz.f5 Rows.topUncalledRow.domain false Rows.topUncalledRow.laid) (((OpenSpec.ofChange Rows.topUncalledSpec).at F).post enc Tryz.prog Tryz.f5 false true false false) := by
  obtain ⟨places, hx⟩ := reads os enc
  refine returnsInHanded_of_row (C := Tryz.checked) (s := OpenSpec.ofChange Rows.topUncalledSpec) own started (by kernel_rfl) Tryz.func5
    (witness_row_at (enc := enc) (C := Tryz.checked) false (laidWorld2 os) #[.slice none 0 0] rfl (by kernel_rfl) (by kernel_rfl) (by kernel_rfl)
      (OpenSpec.preRow_of_cond 8 hx (by kernel_rfl) (fun k hk => by cases hk) (by kernel_rfl) (laid_met2 os _))) ?_
  intro W base args ds gs before hval hW _ hcond hsz hL _ _
  exact contract H enc W base args ds gs before hval hW hL hsz

theorem b2 {a b : Bool} (h1 : a = true) (h2 : b = true) : (a && b) = true := by rw [h1, h2]; rfl
theorem closed : joinedFacts Tryz.pinned.checked.prog 5 Tryz.f5 (OpenSpec.ofChange Rows.topUncalledSpec).bare Rows.topUncalledRow = true := by
  unfold joinedFacts
  exact b2 (b2 (b2 (b2 (b2 (b2 (b2 (b2 (b2 (b2 (b2 (b2 (b2 (b2 (b2 (b2 (b2 (b2 (b2 (b2 (b2 (b2 (b2 (b2 (b2 (b2 (b2 (b2 (b2 (b2 (b2 topUncalled_fk0 topUncalled_fk1) topUncalled_fk2) topUncalled_fk3) topUncalled_fk4) topUncalled_fk5) topUncalled_fk6) topUncalled_fk7) topUncalled_fk8) topUncalled_fk9) topUncalled_fk10) topUncalled_fk11) topUncalled_fk12) topUncalled_fk13) topUncalled_fk14) topUncalled_fk15) topUncalled_fk16) topUncalled_fk17) topUncalled_fk18) topUncalled_fk19) topUncalled_fk20) topUncalled_fk21) topUncalled_fk22) topUncalled_fk23) topUncalled_fk24) topUncalled_fk25) topUncalled_fk26) topUncalled_fk27) topUncalled_fk28) topUncalled_fk29) topUncalled_fk30) topUncalled_fk31

set_option maxHeartbeats 2000000 in
theorem said : Rows.TopUncalledSaid :=
  OpenClaim.holds_of_cond 5 Tryz.f5 rfl rfl rfl rfl rfl rfl rfl ⟨rfl, rfl, rfl, rfl, rfl⟩ rfl rfl rfl rfl rfl topUncalled_named Tryz.func5 closed
    topUncalled_inst (by unfold Func.isWrapper; first | (rw [if_pos (by decide +kernel)]; kernel_rfl) | (rw [if_neg (by decide +kernel)]; exact ⟨rfl, rfl⟩))
    (fun os started H enc _ F => by rw [OpenClaim.pre_eq_preRow]; exact lifted os started H enc F)

theorem plain (f : FuncId) (fn : Func) (hf : Tryz.pinned.checked.prog.funcNamed "lychgate/lychgatetop.TopUncalled" = some f) (hfn : Tryz.pinned.checked.prog.funcs[f]? = some fn) :
    true = Tryz.pinned.checked.prog.looks [] ∧ ∀ (j : Nat) t, fn.params[j]? = some t → Tryz.pinned.checked.prog.wantsStandIn t = false := by
  obtain rfl : f = 5 := Option.some.inj (topUncalled_named.symm.trans hf) |>.symm
  obtain rfl : fn = Tryz.f5 := (Option.some.inj (Tryz.func5.symm.trans hfn)).symm
  refine ⟨topUncalled_looks, fun j t ht => ?_⟩
  rw [Tryz.params5] at ht
  have hm : t ∈ [23] := by simpa using Array.mem_of_getElem? ht
  have hall : ([23].all fun t => Tryz.prog.wantsStandIn t == false) = true := by kernel_rfl
  exact (show Tryz.prog.wantsStandIn t = false by simpa using List.all_eq_true.1 hall t hm)

theorem card : Rows.TopUncalledCardSaid :=
  Claim7.holds_tied_plain_at .later [] _ _ _ _ said (fun _ h => by cases h) topUncalled_text (fun _ h => by cases h) topUncalled_row_tie rfl ⟨rfl, rfl⟩ topUncalled_main rfl plain topUncalled_goes
end Go.Proofs.YtohflohdbkamnaaGreatDoor.topUncalled

namespace Go.Proofs.YtohflohdbkamnaaGreatDoor
theorem proved_TopUncalled : Rows.TopUncalledCardSaid := topUncalled.card
#print axioms proved_TopUncalled
end Go.Proofs.YtohflohdbkamnaaGreatDoor
