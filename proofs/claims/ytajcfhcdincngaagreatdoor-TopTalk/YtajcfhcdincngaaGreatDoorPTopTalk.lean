/- At every input TopTalk returns true, and its arguments read as before, as long as package ctrl's table and the library's table of places hold what the program's text lays there (the card ties it). -/
import Derived.Test.YtajcfhcdincngaaGreatDoorTe
import Derived.Test.YtajcfhcdincngaaGreatDoorOp2
import Derived.Test.YtajcfhcdincngaaGreatDoorPFaTT
import Derived.Test.YtajcfhcdincngaaGreatDoorPFbTT
import Derived.Test.YtajcfhcdincngaaGreatDoorPFcTT
import Derived.Test.YtajcfhcdincngaaGreatDoorPFdTT
import Derived.Test.YtajcfhcdincngaaGreatDoorPFeTT
import Derived.Test.YtajcfhcdincngaaGreatDoorPFfTT
import Derived.Test.YtajcfhcdincngaaGreatDoorPFgTT
import Derived.Test.YtajcfhcdincngaaGreatDoorPFhTT
import Derived.Test.YtajcfhcdincngaaGreatDoorPFiTT
import Derived.Test.YtajcfhcdincngaaGreatDoorPFjTT
import Derived.Test.YtajcfhcdincngaaGreatDoorPFkTT
import Derived.Test.YtajcfhcdincngaaGreatDoorOp
import Derived.Test.YtajcfhcdincngaaGreatDoorOpW
import Derived.Test.YtajcfhcdincngaaGreatDoorTTw
import Derived.ShutString
import Derived.ChangeOld
import Derived.Below
namespace Go.Proofs.YtajcfhcdincngaaGreatDoor.topTalk
open Go.ChangeShapes Go.WideShapes Go.ChangeAt Go.RowKit
set_option maxRecDepth 100000
set_option linter.unusedVariables false
set_option linter.unusedSimpArgs false

theorem own : ownKnob Tryz.prog.godebug = none := by kernel_rfl
theorem laidOut : laidOutB Tryz.prog = true := by kernel_rfl

theorem contract (H : Type) (enc : TypeId × Value → H) (W : World) (base : Nat) (args : Array Value) (ds gs : List (DataW H)) (before : List MemPlace)
  (hval0 : ∀ (j : Nat) t v, Tryz.f3.params[j]? = some t → args[j]? = some v → Value.okWide Tryz.prog W .any base t v)
  (hW : DataW.Whole enc Tryz.prog Tryz.f3.params.toList Rows.topTalkSpec.vars false W args.toList ds gs before) (hL : laidMetH Tryz.prog Rows.topTalkRow.laid W)
  (hsz0 : (DataW.weightsEach Tryz.prog (Tryz.f3.params.toList ++ Rows.topTalkSpec.plain.varTypes Tryz.prog) (ds ++ gs)).all (· ≤ reachBytes) = true) :
  Calls Tryz.prog 3 args W fun e W' => ∃ v, e = .returned v ∧ Rows.topTalkSpec.post enc Tryz.prog Tryz.f3 false true false false W args v W' := by
 have hT : Tb W := tb_of_laid2 hL
 have hz : Dz W := dz_of_laid2 hL
 have hval : ∀ (j : Nat) t v, Tryz.f3.params[j]? = some t → args[j]? = some v → Value.okWide Tryz.prog W .any base t v := hval0
 have hW' := hW
 obtain ⟨p, q, hA0, hV, rfl, hfz, hnd⟩ := hW
 have hA : DataW.TrodAll enc Tryz.prog W 0 (fun _ => true) true Tryz.f3.params.toList args.toList ds p := hA0
 have hsz := hsz0
 rw [Tryz.params3] at hA hval hsz
 obtain ⟨v0, vs0, d0, ds0, p0, q0, hargs, rfl, rfl, h0, r0⟩ := trodAll_cons hA
 obtain ⟨v1, vs1, d1, ds1, p1, q1, rfl, rfl, rfl, h1, r1⟩ := trodAll_cons r0
 obtain ⟨v2, vs2, d2, ds2, p2, q2, rfl, rfl, rfl, h2, r2⟩ := trodAll_cons r1
 obtain ⟨rfl, rfl, rfl⟩ := trodAll_nil r2
 obtain rfl : args = #[v0, v1, v2] := by cases args; simp_all
 obtain ⟨rfl, rfl⟩ := trodVars_none hV
 have k0 := h0
 have lt0 : ∀ x ∈ p0, x.block < W.heap.size := by obtain ⟨m, hm⟩ := k0; exact DataW.trod_lt m _ _ _ hm
 obtain ⟨x0, y0, rfl, bx0, by0⟩ := open_arr2w Tryz.underlying23 Tryz.underlying22 (by kernel_rfl) (by kernel_rfl) (hval 0 23 v0 rfl rfl) h0
 have k1 := h1
 have lt1 : ∀ x ∈ p1, x.block < W.heap.size := by obtain ⟨m, hm⟩ := k1; exact DataW.trod_lt m _ _ _ hm
 obtain ⟨x1, y1, rfl, bx1, by1⟩ := open_arr2 Tryz.underlying25 Tryz.underlying24 (by kernel_rfl) (by kernel_rfl) (hval 1 25 v1 rfl rfl) h1
 have k2 := h2
 have lt2 : ∀ x ∈ p2, x.block < W.heap.size := by obtain ⟨m, hm⟩ := k2; exact DataW.trod_lt m _ _ _ hm
 obtain ⟨a2, len2, cap2, rfl⟩ := okWide_slice Tryz.underlying26 (hval 2 26 v2 rfl rfl)
 obtain ⟨fuel2, hf2⟩ := h2
 obtain ⟨z2, b2, g2, ww2⟩ := open_bytes (c := .slice a2 len2 cap2) (by simpa [Value.cells] using hf2)
 have sz2 := ww2 (by simp only [List.cons_append, List.nil_append, List.append_nil, DataW.weightsEach, List.all_append, Bool.and_eq_true] at hsz; exact hsz.2.2.1)
 clear hA0 hval0
 refine (walk_TopTalk W hT hz x0 y0 bx0 by0 x1 bx1 y1 by1 _ z2 b2 g2 sz2).mono fun e W' ⟨he, bel⟩ => ?_
 subst he
 exact ⟨_, rfl, _, _, _, [], _, [], hW', trodAll_mk1 (shut_bool Tryz.underlying4 _), (trodAll_cons_mk (Below.trod laidOut (by kernel_rfl) (of_decide_eq_true (by kernel_rfl)) k0 bel lt0) (trodAll_cons_mk (Below.trod laidOut (by kernel_rfl) (of_decide_eq_true (by kernel_rfl)) k1 bel lt1) (trodAll_cons_mk (Below.trod laidOut (by kernel_rfl) (of_decide_eq_true (by kernel_rfl)) k2 bel lt2) trodAll_mk0))), rfl, bel.frame _, fun h => by cases h⟩

theorem reads (os : Os) {H : Type} (enc : TypeId × Value → H) : ∃ places, DataW.whole enc Tryz.prog ((laidWorld2 os).forCall (fun _ _ => 0) ⟨#[], #[.agg #[.int .u32 0, .int .u32 0], .agg #[.int .u16 0, .int .u16 0], .slice none 0 0], []⟩).memory Tryz.f3.params.toList Rows.topTalkSpec.vars false #[(.agg #[.int .u32 0, .int .u32 0] : Value), .agg #[.int .u16 0, .int .u16 0], .slice none 0 0].toList 8 = some ([.agg [.lit (.int .u32 0), .lit (.int .u32 0)], .agg [.lit (.int .u16 0), .lit (.int .u16 0)], .nil], [], places) :=
 ⟨[], by kernel_rfl⟩

set_option maxRecDepth 100000 in
set_option maxHeartbeats 2000000 in
theorem lifted (os : Os) (started : os.Started) (H : Type) (enc : TypeId × Value → H) (F : Stop.Interp) :
  ReturnsInHanded {} Tryz.checked os 3 .any ((OpenSpec.ofChange Rows.topTalkSpec).preRow enc Tryz.prog Tryz.f3 Rows.topTalkRow.domain false Rows.topTalkRow.laid) (((OpenSpec.ofChange Rows.topTalkSpec).at F).post enc Tryz.prog Tryz.f3 false true false false) := by
 obtain ⟨places, hx⟩ := reads os enc
 refine returnsInHanded_of_row (C := Tryz.checked) (s := OpenSpec.ofChange Rows.topTalkSpec) own started (by kernel_rfl) Tryz.func3
  (witness_row_at (enc := enc) (C := Tryz.checked) false (laidWorld2 os) #[.agg #[.int .u32 0, .int .u32 0], .agg #[.int .u16 0, .int .u16 0], .slice none 0 0] rfl (by kernel_rfl) (by kernel_rfl) (by kernel_rfl)
   (OpenSpec.preRow_of_cond 8 hx (by kernel_rfl) (fun k hk => by cases hk) (by kernel_rfl) (laid_met2 os _))) ?_
 intro W base args ds gs before hval hW _ hcond hsz hL _ _
 exact contract H enc W base args ds gs before hval hW hL hsz

theorem b2 {a b : Bool} (h1 : a = true) (h2 : b = true) : (a && b) = true := by rw [h1, h2]; rfl
theorem closed : joinedFacts Tryz.pinned.checked.prog 3 Tryz.f3 (OpenSpec.ofChange Rows.topTalkSpec).bare Rows.topTalkRow = true := by
 unfold joinedFacts
 exact b2 (b2 (b2 (b2 (b2 (b2 (b2 (b2 (b2 (b2 (b2 (b2 (b2 (b2 (b2 (b2 (b2 (b2 (b2 (b2 (b2 (b2 (b2 (b2 (b2 (b2 (b2 (b2 (b2 (b2 (b2 topTalk_fk0 topTalk_fk1) topTalk_fk2) topTalk_fk3) topTalk_fk4) topTalk_fk5) topTalk_fk6) topTalk_fk7) topTalk_fk8) topTalk_fk9) topTalk_fk10) topTalk_fk11) topTalk_fk12) topTalk_fk13) topTalk_fk14) topTalk_fk15) topTalk_fk16) topTalk_fk17) topTalk_fk18) topTalk_fk19) topTalk_fk20) topTalk_fk21) topTalk_fk22) topTalk_fk23) topTalk_fk24) topTalk_fk25) topTalk_fk26) topTalk_fk27) topTalk_fk28) topTalk_fk29) topTalk_fk30) topTalk_fk31

set_option maxHeartbeats 2000000 in
theorem said : Rows.TopTalkSaid :=
 OpenClaim.holds_of_cond 3 Tryz.f3 rfl rfl rfl rfl rfl rfl rfl ⟨rfl, rfl, rfl, rfl, rfl⟩ rfl rfl rfl rfl rfl topTalk_named Tryz.func3 closed
  topTalk_inst (by unfold Func.isWrapper; first | (rw [if_pos (by decide +kernel)]; kernel_rfl) | (rw [if_neg (by decide +kernel)]; exact ⟨rfl, rfl⟩))
  (fun os started H enc _ F => by rw [OpenClaim.pre_eq_preRow]; exact lifted os started H enc F)

theorem plain (f : FuncId) (fn : Func) (hf : Tryz.pinned.checked.prog.funcNamed "lychgate/lychgatetop.TopTalk" = some f) (hfn : Tryz.pinned.checked.prog.funcs[f]? = some fn) :
  true = Tryz.pinned.checked.prog.looks [] ∧ ∀ (j : Nat) t, fn.params[j]? = some t → Tryz.pinned.checked.prog.wantsStandIn t = false := by
 obtain rfl : f = 3 := Option.some.inj (topTalk_named.symm.trans hf) |>.symm
 obtain rfl : fn = Tryz.f3 := (Option.some.inj (Tryz.func3.symm.trans hfn)).symm
 refine ⟨topTalk_looks, fun j t ht => ?_⟩
 rw [Tryz.params3] at ht
 have hm : t ∈ [23, 25, 26] := by simpa using Array.mem_of_getElem? ht
 have hall : ([23, 25, 26].all fun t => Tryz.prog.wantsStandIn t == false) = true := by kernel_rfl
 exact (show Tryz.prog.wantsStandIn t = false by simpa using List.all_eq_true.1 hall t hm)

theorem card : Rows.TopTalkCardSaid :=
 Claim7.holds_tied_plain_at .later [] _ _ _ _ said (fun _ h => by cases h) topTalk_text (fun _ h => by cases h) topTalk_row_tie rfl ⟨rfl, rfl⟩ topTalk_main rfl plain topTalk_goes
end Go.Proofs.YtajcfhcdincngaaGreatDoor.topTalk

namespace Go.Proofs.YtajcfhcdincngaaGreatDoor
theorem proved_TopTalk : Rows.TopTalkCardSaid := topTalk.card
#print axioms proved_TopTalk
end Go.Proofs.YtajcfhcdincngaaGreatDoor
