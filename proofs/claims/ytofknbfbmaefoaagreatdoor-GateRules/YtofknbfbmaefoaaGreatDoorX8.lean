import Derived.MapKept
import Derived.Test.YtofknbfbmaefoaaGreatDoorW1
import Derived.Test.YtofknbfbmaefoaaGreatDoorX18
import Derived.Deep.DeepCutAuto
import Derived.Deep.CutBlock
import Derived.Test.YtofknbfbmaefoaaGreatDoorX17
import Derived.Test.YtofknbfbmaefoaaGreatDoorX16
import Derived.Test.YtofknbfbmaefoaaGreatDoorX15
import Derived.Test.YtofknbfbmaefoaaGreatDoorX14
import Derived.Test.YtofknbfbmaefoaaGreatDoorX9
import Derived.Test.YtofknbfbmaefoaaGreatDoorX11
import Derived.OrdersIn
import Derived.RangeFuncCalls
namespace Go.Proofs.YtofknbfbmaefoaaGreatDoor
open Go.RowKit Go.Shelf
set_option maxRecDepth 100000
set_option linter.unusedVariables false
set_option linter.unusedSimpArgs false
def rv (l : List Int) : Value := .agg (l.map (.int .i64)).toArray
theorem run_find {P : Program} {t kt et : TypeId} (ht : P.underlying t = some (.map kt et)) (hk : P.underlying kt = some (.int .i64)) {w : World} {b : Nat} {es : Array MapEntry} {c : Nat} (hb : w.heap[b]? = some (.map es c)) (z : Int) (v : Value)
  (hf : ((∃ j, Instr.findNow (.int .i64) (.int .i64 z) es.toList 0 = some (some (j, v))) ∨ (Instr.findNow (.int .i64) (.int .i64 z) es.toList 0 = some none ∧ (zeroValue et).run P w = .ok v w))) : (Instr.lookup t (.map (some b)) (.int .i64 z) false).run P w = .ok v w := by
 have hc : (Instr.checkKey es.isEmpty 10000 kt (.int .i64 z)).run P w = .ok () w := MapKept.run_checkKey (k := .int .i64 z) hk (by simp [MapKept.IsKey]) _ 9999
 rcases hf with ⟨j, hf⟩ | ⟨hf, hz⟩
 ·simp [Instr.lookup, run_underlying ht, MapKept.run_getObj_map hb, hc, MapKept.run_findKey hk hf, Result.andThen]
 ·simp [Instr.lookup, run_underlying ht, MapKept.run_getObj_map hb, hc, MapKept.run_findKey hk hf, hz, Result.andThen]
def row7 (s : Int) : List Int := if s = 0 then [0,0,1,0,0,0,0] else if s = 1 then [0,7,1,2,0,0,0] else if s = 2 then [0,7,2,2,2,4,3] else if s = 3 then [0,7,0,0,0,4,3] else if s = 4 then [0,7,0,0,0,5,4] else if s = 5 then [0,7,0,0,0,5,6] else if s = 6 then [0,7,1,0,0,6,6] else if s = 7 then [0,7,1,0,0,0,0] else [0,0,0,0,0,0,0]
def fb (fl k : Int) : Int := bits .and .u8 fl k
def bgn (fl : Int) : Bool := bits .and .u8 fl 23 == 2
theorem begins_any (fl : Int) (w : World) : Calls Tryz.prog 190 #[.int .u8 fl] w fun e w' => e = .returned (.bool (bgn fl)) ∧ w' = w := by
 go_enter Tryz.func190, Tryz.ntmps190
 go_wp2_with fail
 go_ret
 exact ⟨rfl, rfl⟩
structure Gs where
 lo : Int
 hi : Int
 now : Int
 ls : List Ru
 gr : Nat
 gf : Nat
 gt : Nat
 gb : Nat
 gp : Nat
 vr : Value
 ve : Value
 cf : Nat
 cp : Nat
def gtc (s : Gs) : List Value := [.int .u16 s.lo, .int .u16 s.hi, .int .i64 s.now, .int .i64 0, .pointer (some ⟨s.gr, 0, none⟩), .map (some s.gf), .pointer (some ⟨s.gt, 0, none⟩), .pointer (some ⟨s.gb, 0, none⟩), .map (some s.gp)]
structure GI (base : Nat) (W : World) (g : Nat) (s : Gs) : Prop where
 bs : base ≤ g
 gc : W.heap[g]? = some (.cells (gtc s).toArray 81 (0, 0))
 rl : RL 136 base W s.gr s.vr s.ls
 tb : TB base W s.gt 128 0 0 (fun _ => [])
 bl : BL 144 base W s.gb s.ve []
 fl : W.heap[s.gf]? = some (.map #[] s.cf)
 pl : W.heap[s.gp]? = some (.map #[] s.cp)
theorem TB.laterD {base : Nat} {A B : World} {b : Nat} {lim cnt trn : Int} {ls : Nat → List Rw} (h : TB base A b lim cnt trn ls) (l : Later A B) : TB base B b lim cnt trn ls := let ⟨vs, h⟩ := h; ⟨vs, h.later l⟩
theorem GI.later {base : Nat} {A B : World} {g : Nat} {s : Gs} (h : GI base A g s) (l : Later A B) : GI base B g s :=
 ⟨h.bs, later_keep l h.gc, h.rl.later l, h.tb.laterD l, h.bl.later l, later_keep l h.fl, later_keep l h.pl⟩
theorem gtv_none (p s d a b : Int) : gtv p s d a b (fun _ => []) = .tuple #[.int .i64 0, .int .i64 0, .bool false] := rfl
theorem get_none (base gt : Nat) (p x d a b : Int) (W : World) (h : TB base W gt 128 0 0 (fun _ => [])) (hs : 0 ≤ x ∧ x ≤ 4294967295) (hd : 0 ≤ d ∧ d ≤ 4294967295) (ha : 0 ≤ a ∧ a ≤ 65535) (hb : 0 ≤ b ∧ b ≤ 65535) :
  Calls Tryz.prog 75 #[.pointer (some ⟨gt, 0, none⟩), .agg #[.int .u8 p, .int .u32 x, .int .u32 d, .int .u16 a, .int .u16 b]] W fun e w' => e = .returned (.tuple #[.int .i64 0, .int .i64 0, .bool false]) ∧ Later W w' := by
 refine (get_any base gt 128 0 0 (fun _ => []) p x d a b W h hs hd ha hb).mono ?_
 rintro e w' ⟨h1, rfl⟩
 exact ⟨by rw [gtv_none], h1⟩
set_option maxRecDepth 100000 in
set_option maxHeartbeats 4000000 in
theorem lookUp_none (base g : Nat) (s : Gs) (p x d a b : Int) (w : World) (h : GI base w g s) (hs : 0 ≤ x ∧ x ≤ 4294967295) (hd : 0 ≤ d ∧ d ≤ 4294967295) (ha : 0 ≤ a ∧ a ≤ 65535) (hb : 0 ≤ b ∧ b ≤ 65535) :
  Calls Tryz.prog 33 #[.pointer (some ⟨g, 0, none⟩), .agg #[.int .u8 p, .int .u32 x, .int .u32 d, .int .u16 a, .int .u16 b]] w fun e w' => e = .returned (.tuple #[.pointer none, .bool false, .bool false]) ∧ Later w w' := by
 have l0 := later_allocG w (.cells #[.int .u8 p, .int .u32 x, .int .u32 d, .int .u16 a, .int .u16 b] 68)
 have C0 := hide (heap_alloc_new w (.cells #[.int .u8 p, .int .u32 x, .int .u32 d, .int .u16 a, .int .u16 b] 68))
 have HG := hide (h.later l0)
 have HGT := hide (fun W (l : Later w W) => get_none base s.gt p x d a b W (h.tb.laterD l) hs hd ha hb)
 clear h hs hd ha hb
 go_enter Tryz.func33, Tryz.ntmps33
 go_upto_region 1 with fail
 generalize w.alloc _ = w1 at *
 generalize w.heap.size = gx at *
 refine anyR_begin (R := Later) Later.pre Later.drew 13 rfl (by kernel_rfl) (fun V0 hV0 => ?_)
 have q0 : ∀ v, Later V0 v → ∀ j, v.cell? ⟨gx, j, none⟩ = #[.int .u8 p, .int .u32 x, .int .u32 d, .int .u16 a, .int .u16 b][j]? := fun v hv => block_cell (later_keep (hV0.trans hv) C0.out)
 have q1 : ∀ v, Later V0 v → ∀ j, v.cell? ⟨g, j, none⟩ = (gtc s).toArray[j]? := fun v hv => block_cell (later_keep (hV0.trans hv) HG.out.gc)
 unfold gtc at q1
 refine rV Later.pre 0 rfl rfl ⟨_, fun v h => by (go_simp; rfl), ?_⟩; simp only [Act.put, sA, sB, sC]
 refine rV Later.pre 1 rfl rfl ⟨_, fun v h => by (go_simp; rfl), ?_⟩; simp only [Act.put, sA, sB, sC]
 refine rV Later.pre 2 rfl rfl ⟨_, fun v h => by (go_simp; rfl), ?_⟩; simp only [Act.put, sA, sB, sC]
 refine rV Later.pre 3 rfl rfl ⟨_, fun v h => by (go_simp; rfl), ?_⟩; simp only [Act.put, sA, sB, sC]
 refine rV Later.pre 4 rfl rfl ⟨_, fun v h => by (go_simp; rfl), ?_⟩; simp only [Act.put, sA, sB, sC]
 clear q0 q1
 refine anyR_take Later.pre 5 (.tuple #[.int .i64 0, .int .i64 0, .bool false]) rfl (by kernel_rfl) (by kernel_rfl) (by kernel_rfl) (fun _ _ _ h => h) rfl (fun u hu => goes_call 75 #[.pointer (some ⟨s.gt, 0, none⟩), .agg #[.int .u8 p, .int .u32 x, .int .u32 d, .int .u16 a, .int .u16 b]] (by go_simp) (HGT.out u (Later.trans l0 (hV0.trans hu)))) ?_
 simp only [Act.put, sA, sB, sC]
 refine rV Later.pre 6 rfl rfl ⟨_, fun v h => by (go_simp; rfl), ?_⟩; simp only [Act.put, sA, sB, sC]
 refine rV Later.pre 7 rfl rfl ⟨_, fun v h => by (go_simp; rfl), ?_⟩; simp only [Act.put, sA, sB, sC]
 refine rV Later.pre 8 rfl rfl ⟨_, fun v h => by (go_simp; rfl), ?_⟩; simp only [Act.put, sA, sB, sC]
 refine rV Later.pre 9 rfl rfl ⟨_, fun v h => by (go_simp; rfl), ?_⟩; simp only [Act.put, sA, sB, sC]
 refine rV Later.pre 10 rfl rfl ⟨_, fun v h => by (go_simp; rfl), ?_⟩; simp only [Act.put, sA, sB, sC]
 refine rV Later.pre 11 rfl rfl ⟨_, fun v h => by (go_simp; rfl), ?_⟩; simp only [Act.put, sA, sB, sC]
 refine rV Later.pre 12 rfl rfl ⟨_, fun v h => by (go_simp; rfl), ?_⟩; simp only [Act.put, sA, sB, sC]
 refine anyR_done (by kernel_rfl) (fun V9 hV9 => ?_)
 go_wp2_with fail
 exact bodyPost_ret (v := .tuple #[.pointer none, .bool false, .bool false]) (by simp [results, Tryz.results33, go_sem]) rfl ⟨rfl, Later.trans l0 (hV0.trans hV9)⟩
section
variable {P : Program} {ops : Array Oper} {Q : Exit → Act → World → Prop} {md : Region.Mode} {R : World → World → Prop}
def GivesG (P : Program) (ops : Array Oper) (R : World → World → Prop) (o : Oper) (v : Value) (a : Act) (w : World) : Prop :=
 Region.wanted o (yielded ops a.tmps) = true ∧ ∀ w', R w w' → (execOp a.eval o).run P w' = .ok (.value v) w'
theorem GivesG.of_same {o : Oper} {v : Value} {a a' : Act} {w : World} (hy : GivesG P ops R o v a w) (he : execOp a'.eval o = execOp a.eval o)
  (hw : Region.wanted o (yielded ops a'.tmps) = Region.wanted o (yielded ops a.tmps)) : GivesG P ops R o v a' w := by
 unfold GivesG at *
 rw [he, hw]
 exact hy
theorem GivesG.up {o : Oper} {v : Value} {a : Act} {w w' : World} (ht : ∀ a b c, R a b → R b c → R a c) (hy : GivesG P ops R o v a w) (h : R w w') : GivesG P ops R o v a w' := ⟨hy.1, fun w'' h' => hy.2 w'' (ht _ _ _ h h')⟩
theorem wpOp_putG {j : Nat} {oi oj : Oper} {v : Value} (hj : ops[j]? = some oj) (hap : oi.apart ops oj = true)
  (hsi : ∀ cs b, oi.op ≠ .select cs b) (hsj : ∀ cs b, oj.op ≠ .select cs b)
  (hQ : ∀ c a w, Q (.panic c) (a.put oi.dst v) w → Q (.panic c) a w) {K : Act → World → Prop} {a : Act} {w w₀ : World}
  (hy : GivesG P ops R oi v a w₀) (h : wpOp P ops Q j K (a.put oi.dst v) w) :
  wpOp P ops Q j (fun a' w' => GivesG P ops R oi v a' w₀ ∧ K (a'.put oi.dst v) w') a w := by
 obtain ⟨h1, h2, h3⟩ := Oper.apart_spec hap
 have keep : ∀ (a : Act), GivesG P ops R oi v a w₀ → ∀ u, GivesG P ops R oi v (a.put oj.dst u) w₀ := fun a hy u =>
  hy.of_same (execOp_put oi hsi a oj.dst u h3) (wanted_put oi a oj.dst u h3)
 have keepD : ∀ d, GivesG P ops R oi v { a with defers := d :: a.defers } w₀ := fun d => hy.of_same rfl rfl
 unfold wpOp at *
 simp only [hj] at *
 rw [wanted_put oj a oi.dst v h1] at h
 split
 ·rename_i hw
  simp only [hw, if_true] at h
  rcases h with h | ⟨hasks, hlets⟩
  case inr => exact .inr ⟨by unfold Oper.asks at *; rw [execOp_put oj hsj a oi.dst v h1] at hasks; exact hasks, hlets⟩
  refine .inl ?_
  unfold Oper.wp at *
  rw [execOp_put oj hsj a oi.dst v h1] at h
  generalize (execOp a.eval oj).run P w = r at *
  cases r with
  | ok n w' =>
   cases n <;> simp only [Oper.upon] at h ⊢
   case value u => exact ⟨keep a hy u, by rw [← Act.put_comm a v u h2]; exact h⟩
   case skip => exact ⟨keep a hy _, by rw [← Act.put_comm a v undef h2]; exact h⟩
   case defer d =>
    refine ⟨keep _ (keepD d) _, ?_⟩
    rw [← Act.put_comm _ v undef h2, ← Act.put_defers]
    exact h
   case enter f args =>
    refine Calls.mono h fun e w'' he => ?_
    cases e with
    | returned u => exact ⟨keep a hy u, by rw [← Act.put_comm a v u h2]; exact he⟩
    | panicked c => exact hQ _ _ _ he
    | outgrown => exact he
   case row row args => exact Rows.mono h fun u w'' he => ⟨keep a hy u, by rw [← Act.put_comm a v u h2]; exact he⟩
  | halt x w' =>
   cases x <;> simp only [Oper.upon] at h ⊢
   case panic u => exact hQ _ _ _ h
 ·rename_i hw
  simp only [hw] at h
  exact ⟨keep a hy _, by rw [← Act.put_comm a v undef h2]; exact h⟩
theorem GivesG.wpOp {i : Nat} {o : Oper} {v : Value} {a : Act} {w : World} (hr : ∀ a, R a a) (hi : ops[i]? = some o) (hy : GivesG P ops R o v a w)
  {K : Act → World → Prop} (h : K (a.put o.dst v) w) : Go.wpOp P ops Q i K a w := by
 unfold Go.wpOp
 simp only [hi, hy.1, if_true]
 refine .inl ?_
 unfold Oper.wp
 rw [hy.2 w (hr w)]
 exact h
end
section
variable {P : Program} {l : List Oper} {Q : Exit → Act → World → Prop} {fuel : Nat} {listed : Array Bool} {a : Act} {w : World} {R : World → World → Prop}
end
def Rj (R1 R2 : World → World → Prop) (D : List Nat) (j : Nat) : World → World → Prop := if D.contains j = true then R2 else R1
theorem Rj_in {R1 R2 : World → World → Prop} {D : List Nat} {j : Nat} (h : D.contains j = true) {w w' : World} (k : R2 w w') : Rj R1 R2 D j w w' := by unfold Rj; rw [if_pos h]; exact k
theorem Rj_out {R1 R2 : World → World → Prop} {D : List Nat} {j : Nat} (h : D.contains j = false) {w w' : World} (k : R1 w w') : Rj R1 R2 D j w w' := by unfold Rj; rw [if_neg (by rw [h]; simp)]; exact k
section
variable {P : Program} {ops : Array Oper} {Q : Exit → Act → World → Prop} {md : Region.Mode} {R1 R2 S : World → World → Prop} {D : List Nat}
def wpAnyU (P : Program) (md : Region.Mode) (ops : Array Oper) (Q : Exit → Act → World → Prop) (R1 R2 : World → World → Prop) (D : List Nat) : Nat → Array Bool → Act → World → Prop
 | 0, listed, a, w => Region.ready md ops listed = [] ∧ Q .normal a w
 | fuel + 1, listed, a, w =>
  (Region.ready md ops listed = [] → Q .normal a w) ∧
  ∀ i ∈ Region.ready md ops listed, wpOp P ops Q i (fun a' w'' => Rj R1 R2 D i w w'' ∧ wpAnyU P md ops Q R1 R2 D fuel (listed.setIfInBounds i true) a' w'') a w
theorem wpAny_of_U : ∀ (fuel : Nat) (listed : Array Bool) (a : Act) (w : World), wpAnyU P md ops Q R1 R2 D fuel listed a w → wpAny P md ops Q fuel listed a w
 | 0, _, _, _, h => h
 | fuel + 1, _, _, _, h => ⟨h.1, fun i hi => wpOp_mono (fun a' w' h' => wpAny_of_U fuel _ a' w' h'.2) (h.2 i hi)⟩
theorem wpAnyU_first (hre : ∀ a, S a a) (ht : ∀ a b c, S a b → S b c → S a c) {i : Nat} {oi : Oper} {v : Value} (hi : ops[i]? = some oi) (hself : ∀ w, Rj R1 R2 D i w w) (hsel : ∀ (j : Nat) (o : Oper) cs b, ops[j]? = some o → o.op ≠ .select cs b)
  (hQ : ∀ c a w, Q (.panic c) (a.put oi.dst v) w → Q (.panic c) a w) (Inv : Array Bool → Prop)
  (hInv : ∀ listed, Inv listed → listed.getD i true = false → ∀ j ∈ Region.ready md ops listed, j ≠ i → (∀ w w', Rj R1 R2 D j w w' → S w w') ∧ Inv (listed.setIfInBounds j true)) :
  ∀ (fuel : Nat) (listed : Array Bool) (a : Act) (w : World), Inv listed →
   (∀ j oj, ops[j]? = some oj → j ≠ i → listed.getD j true = false → (∀ e ∈ oj.after, Region.binds md e = true → e.on ≠ i) → oi.apart ops oj = true) →
   i ∈ Region.ready md ops listed → GivesG P ops S oi v a w →
   wpAnyU P md ops Q R1 R2 D fuel (listed.setIfInBounds i true) (a.put oi.dst v) w → wpAnyU P md ops Q R1 R2 D (fuel + 1) listed a w := by
 intro fuel
 induction fuel with
 | zero =>
  intro listed a w _ _ hr hy H
  refine ⟨fun h => (by rw [h] at hr; cases hr), fun j hj => ?_⟩
  by_cases hji : j = i
  ·subst hji; exact hy.wpOp hre hi ⟨hself _, H⟩
  ·have := ready_mono hj hji
   rw [H.1] at this
   cases this
 | succ fuel ih =>
  intro listed a w hinv hfree hr hy H
  refine ⟨fun h => (by rw [h] at hr; cases hr), fun j hj => ?_⟩
  by_cases hji : j = i
  ·subst hji; exact hy.wpOp hre hi ⟨hself _, H⟩
  ·have h1 := H.2 j (ready_mono hj hji)
   obtain ⟨hjun, oj, hoj, hall⟩ := mem_ready.1 hj
   have hnot : ∀ e ∈ oj.after, Region.binds md e = true → e.on ≠ i := fun e he hb heq => by
    have h1 := hall e he hb
    have h0 := (mem_ready.1 hr).1
    rw [heq] at h1
    rcases Nat.lt_or_ge i listed.size with h' | h'
    ·simp [h'] at h0 h1; rw [h0] at h1; cases h1
    ·simp [Array.getElem?_eq_none h'] at h1
   have h2 := wpOp_putG hoj (hfree j oj hoj hji hjun hnot) (fun cs b => hsel i oi cs b hi) (fun cs b => hsel j oj cs b hoj) hQ hy h1
   have hfree' : ∀ k ok, ops[k]? = some ok → k ≠ i → (listed.setIfInBounds j true).getD k true = false →
     (∀ e ∈ ok.after, Region.binds md e = true → e.on ≠ i) → oi.apart ops ok = true := fun k ok hk hki hun hno => by
    refine hfree k ok hk hki ?_ hno
    by_cases hjk : j = k
    ·subst hjk; exact hjun
    ·rw [getD_set_ne true hjk] at hun; exact hun
   obtain ⟨hs, hinv'⟩ := hInv listed hinv (mem_ready.1 hr).1 j hj hji
   refine wpOp_mono (fun a' w'' h3 => ⟨h3.2.1, ih (listed.setIfInBounds j true) a' w'' hinv' hfree' (ready_mono hr (Ne.symm hji)) (h3.1.up ht (hs _ _ h3.2.1)) ?_⟩) h2
   rw [Array.setIfInBounds_comm _ _ hji]
   exact h3.2.2
def blocks (md : Region.Mode) (ops : Array Oper) (D : List Nat) (i : Nat) : Bool := D.all fun d => match ops[d]? with
 | some o => o.after.any fun e => Region.binds md e && (e.on == i || D.contains e.on)
 | none => false
theorem blocks_spec {i : Nat} (h : blocks md ops D i = true) {listed : Array Bool} (hi : listed.getD i true = false) (hD : ∀ d ∈ D, listed.getD d true = false) {j : Nat} (hj : j ∈ Region.ready md ops listed) : j ∉ D := fun hjD => by
 obtain ⟨_, o, ho, hall⟩ := mem_ready.1 hj
 unfold blocks at h
 rw [List.all_eq_true] at h
 have h1 := h j hjD
 rw [ho] at h1
 simp only [Array.any_eq_true] at h1
 obtain ⟨k, hk, he⟩ := h1
 simp only [Bool.and_eq_true, Bool.or_eq_true, beq_iff_eq] at he
 have hl := hall o.after[k] (Array.getElem_mem hk) he.1
 have no : ∀ x, listed.getD x true = false → listed.getD x false = true → False := fun x h0 h1 => by
  rcases Nat.lt_or_ge x listed.size with h' | h'
  ·simp [h'] at h0 h1; rw [h0] at h1; cases h1
  ·simp [Array.getElem?_eq_none h'] at h1
 rcases he.2 with e | e
 ·rw [e] at hl
  exact no i hi hl
 ·exact no _ (hD _ (by simpa using e)) hl
end
section
variable {P : Program} {l : List Oper} {Q : Exit → Act → World → Prop} {fuel : Nat} {listed : Array Bool} {a : Act} {w : World} {R1 R2 S : World → World → Prop} {D : List Nat}
theorem anyU_val (hp : Pre R1) (i : Nat) (B : List Nat) {oi : Oper} (hi : nthOp l i = some oi) (hiD : D.contains i = false) (hsub : D.all (fun d => B.contains d) = true) (hbl : blocks .any l.toArray B i = true) (hun : B.all (fun d => !(listed.getD d true)) = true)
  (hs : Region.noSelect l.toArray = true) (hf : Region.free .any l.toArray listed i = true) (hr : (Region.ready .any l.toArray listed).contains i = true)
  (hQ : ∀ v c a w, Q (.panic c) (a.put oi.dst v) w → Q (.panic c) a w) (hg : Region.wanted oi (yielded l.toArray a.tmps) = true)
  (h : ∃ v, (∀ w', R1 w w' → (execOp a.eval oi).run P w' = .ok (.value v) w') ∧ wpAnyU P .any l.toArray Q R1 R2 D fuel (listed.setIfInBounds i true) (a.put oi.dst v) w) : wpAnyU P .any l.toArray Q R1 R2 D (fuel + 1) listed a w := by
 obtain ⟨v, h1, h2⟩ := h
 have hi' : l.toArray[i]? = some oi := by rw [← hi, nthOp_eq]; simp
 have hunp : ∀ d ∈ B, listed.getD d true = false := fun d hd => by
  have := List.all_eq_true.1 hun d hd
  simpa using this
 refine wpAnyU_first (S := R1) hp.1 hp.2 hi' (fun w => Rj_out hiD (hp.1 w)) (Region.noSelect_spec hs) (hQ v) (fun listed => ∀ d ∈ B, listed.getD d true = false) ?_ fuel listed a w hunp (Region.free_spec hi' hf) (by simpa using hr) ⟨hg, h1⟩ h2
 intro listed' hinv hiu j hj hji
 have hjB := blocks_spec hbl hiu hinv hj
 have hjD : j ∉ D := fun hd => hjB (by simpa using List.all_eq_true.1 hsub j hd)
 have hjc : D.contains j = false := by cases hc : D.contains j with | false => rfl | true => exact absurd (by simpa using hc) hjD
 refine ⟨fun w w' hR => by unfold Rj at hR; rw [if_neg (by rw [hjc]; simp)] at hR; exact hR, fun d hd => ?_⟩
 by_cases hdj : j = d
 ·subst hdj; exact absurd hd hjB
 ·rw [getD_set_ne true hdj]; exact hinv d hd
theorem anyU_pure (h1r : ∀ w, R1 w w) (h2r : ∀ w, R2 w w) (i : Nat) {oi : Oper} (hi : nthOp l i = some oi)
  (hs : Region.noSelect l.toArray = true) (hf : Region.free .any l.toArray listed i = true) (hr : (Region.ready .any l.toArray listed).contains i = true)
  (hQ : ∀ v c a w, Q (.panic c) (a.put oi.dst v) w → Q (.panic c) a w) (hg : Region.wanted oi (yielded l.toArray a.tmps) = true)
  (h : ∃ v, (∀ w', (execOp a.eval oi).run P w' = .ok (.value v) w') ∧ wpAnyU P .any l.toArray Q R1 R2 D fuel (listed.setIfInBounds i true) (a.put oi.dst v) w) : wpAnyU P .any l.toArray Q R1 R2 D (fuel + 1) listed a w := by
 obtain ⟨v, h1, h2⟩ := h
 have hi' : l.toArray[i]? = some oi := by rw [← hi, nthOp_eq]; simp
 exact wpAnyU_first (S := fun _ _ => True) (fun _ => trivial) (fun _ _ _ _ _ => trivial) hi' (fun w => by unfold Rj; split; (· exact h2r w); (· exact h1r w)) (Region.noSelect_spec hs) (hQ v) (fun _ => True) (fun _ _ _ _ _ _ => ⟨fun _ _ _ => trivial, trivial⟩) fuel listed a w trivial (Region.free_spec hi' hf) (by simpa using hr) ⟨hg, fun w' _ => h1 w'⟩ h2
theorem uV (hp : Pre R1) (i : Nat) (B : List Nat) {oi : Oper} (hi : nthOp l i = some oi) (hiD : D.contains i = false) (hsub : D.all (fun d => B.contains d) = true) (hg : Region.wanted oi (yielded l.toArray a.tmps) = true)
  (h : ∃ v, (∀ w', R1 w w' → (execOp a.eval oi).run P w' = .ok (.value v) w') ∧ wpAnyU P .any l.toArray Q R1 R2 D fuel (listed.setIfInBounds i true) (a.put oi.dst v) w)
  (hbl : blocks .any l.toArray B i = true := by kernel_rfl) (hun : B.all (fun d => !(listed.getD d true)) = true := by kernel_rfl) (hs : Region.noSelect l.toArray = true := by kernel_rfl) (hf : Region.free .any l.toArray listed i = true := by kernel_rfl) (hr : (Region.ready .any l.toArray listed).contains i = true := by kernel_rfl)
  (hQ : ∀ v c a w, Q (.panic c) (a.put oi.dst v) w → Q (.panic c) a w := by intro _ _ _ _ h; cases h.1) : wpAnyU P .any l.toArray Q R1 R2 D (fuel + 1) listed a w := anyU_val hp i B hi hiD hsub hbl hun hs hf hr hQ hg h
theorem uP (h1r : ∀ w, R1 w w) (h2r : ∀ w, R2 w w) (i : Nat) {oi : Oper} (hi : nthOp l i = some oi) (hg : Region.wanted oi (yielded l.toArray a.tmps) = true)
  (h : ∃ v, (∀ w', (execOp a.eval oi).run P w' = .ok (.value v) w') ∧ wpAnyU P .any l.toArray Q R1 R2 D fuel (listed.setIfInBounds i true) (a.put oi.dst v) w)
  (hs : Region.noSelect l.toArray = true := by kernel_rfl) (hf : Region.free .any l.toArray listed i = true := by kernel_rfl) (hr : (Region.ready .any l.toArray listed).contains i = true := by kernel_rfl)
  (hQ : ∀ v c a w, Q (.panic c) (a.put oi.dst v) w → Q (.panic c) a w := by intro _ _ _ _ h; exact h) : wpAnyU P .any l.toArray Q R1 R2 D (fuel + 1) listed a w := anyU_pure h1r h2r i hi hs hf hr hQ hg h
theorem anyU_begin {id : Nat} (n : Nat) (hn : l.length = n) (hm : P.follows .mixedOrders = true)
  (h : wpAnyU P .any l.toArray Q R1 R2 D n (Array.replicate n false) a w.drew) : (Code.region id l.toArray true).wp P Q a w := by
 subst hn
 refine wp_region_any hm (wpAny_of_U (R1 := R1) (R2 := R2) (D := D) _ _ _ _ ?_)
 simpa using h
theorem anyU_done (hr : Region.ready .any l.toArray listed = []) (h : Q .normal a w) : wpAnyU P .any l.toArray Q R1 R2 D fuel listed a w := by
 cases fuel with
 | zero => exact ⟨hr, h⟩
 | succ n => exact ⟨fun _ => h, by rw [hr]; simp⟩
theorem anyU_one (i : Nat) {oi : Oper} (hi : nthOp l i = some oi) (hr : Region.ready .any l.toArray listed = [i]) (hg : Region.wanted oi (yielded l.toArray a.tmps) = true)
  (h1 : oi.wp P a w (fun a' w'' => Rj R1 R2 D i w w'' ∧ wpAnyU P .any l.toArray Q R1 R2 D fuel (listed.setIfInBounds i true) a' w'') Q) :
  wpAnyU P .any l.toArray Q R1 R2 D (fuel + 1) listed a w := by
 have hi' : l.toArray[i]? = some oi := by rw [← hi, nthOp_eq]; simp
 refine ⟨fun h0 => (by rw [hr] at h0; cases h0), fun k hk => ?_⟩
 rw [hr] at hk
 unfold wpOp
 obtain rfl : k = i := by simpa using hk
 rw [hi']; simp only [hg, if_true]; exact .inl h1
end
def calmQ (Q : Act → World → Prop) : Exit → Act → World → Prop := fun e a w => e = .normal ∧ Q a w
variable {P : Program} {R : World → World → Prop} {w : World} {a : Act} {ops : List Oper}
theorem anyU_two {R1 R2 : World → World → Prop} {D : List Nat} {fuel : Nat} {listed : Array Bool} {Q : Exit → Act → World → Prop} (i j : Nat) {oi oj : Oper} (hi : nthOp ops i = some oi) (hj : nthOp ops j = some oj) (hr : Region.ready .any ops.toArray listed = [i, j]) (gi : Region.wanted oi (yielded ops.toArray a.tmps) = true) (gj : Region.wanted oj (yielded ops.toArray a.tmps) = true)
  (h1 : oi.wp P a w (fun a' w'' => Rj R1 R2 D i w w'' ∧ wpAnyU P .any ops.toArray Q R1 R2 D fuel (listed.setIfInBounds i true) a' w'') Q)
  (h2 : oj.wp P a w (fun a' w'' => Rj R1 R2 D j w w'' ∧ wpAnyU P .any ops.toArray Q R1 R2 D fuel (listed.setIfInBounds j true) a' w'') Q) :
  wpAnyU P .any ops.toArray Q R1 R2 D (fuel + 1) listed a w := by
 have hi' : ops.toArray[i]? = some oi := by rw [← hi, nthOp_eq]; simp
 have hj' : ops.toArray[j]? = some oj := by rw [← hj, nthOp_eq]; simp
 refine ⟨fun h0 => (by rw [hr] at h0; cases h0), fun k hk => ?_⟩
 rw [hr] at hk
 unfold wpOp
 rcases List.mem_cons.1 hk with rfl | hk
 ·rw [hi']; simp only [gi, if_true]; exact .inl h1
 ·obtain rfl : k = j := by simpa using hk
  rw [hj']; simp only [gj, if_true]; exact .inl h2
theorem wp_appT {o : Oper} {K : Act → World → Prop} {Q : Exit → Act → World → Prop} (s x : Operand) (t u : TypeId) (hop : o.op = Op.call { callee := Callee.builtin Builtin.append, args := #[s, x], argTypes := #[t, u] })
  (v sx : Value) (hs : a.eval s = v) (hx : a.eval x = sx) (v' : Value) (w' : World) (hrun : (Builtin.append_ #[t, u] o.type #[v, sx]).run P w = .ok v' w') (hK : K (a.put o.dst v') w') : o.wp P a w K Q := by
 unfold Oper.wp
 simp [execOp, hop, resolve, invoke, builtin, hs, hx, hrun, Result.andThen]
 exact hK
end Go.Proofs.YtofknbfbmaefoaaGreatDoor
namespace Go.Proofs.YtofknbfbmaefoaaGreatDoor
open Go.RowKit Go.Shelf
set_option maxRecDepth 100000
set_option linter.unusedVariables false
set_option linter.unusedSimpArgs false
theorem wp_calmG {P : Program} {c : Code} {Q : Exit → Act → World → Prop} {a : Act} {w : World} (h : c.wp P (calmQ (Q .normal)) a w) : c.wp P Q a w := wp_mono h (fun e a w h => by obtain ⟨rfl, h⟩ := h; exact h)
def FlQ (e : Ending) : Prop := ∃ f : Int, e = .returned (.int .u8 f)
def AsQ (e : Ending) : Prop := ∃ f : Bool, e = .returned (.bool f)
set_option maxRecDepth 100000 in
set_option maxHeartbeats 4000000 in
theorem flags_some (g : Nat) (tos id ttl pr src dst : Int) (keep : Bool) (so sd : Value) (side : Int) (zd : List Int) (w : World) (hB : Mt.By zd) (hI : Rd w.heap.size w sd zd) (hl : zd.length ≤ 70000) (hsr : 0 ≤ src ∧ src ≤ 4294967295) (hds : 0 ≤ dst ∧ dst ≤ 4294967295) :
  Calls Tryz.prog 191 #[.agg #[.pointer (some ⟨g, 0, none⟩), .int .u8 tos, .int .u16 id, .bool keep, .int .u8 ttl, .int .u8 pr, .int .u32 src, .int .u32 dst, so, sd, .int .i64 side]] w fun e w' => FlQ e ∧ Later w w' := by
 have l0 := later_allocG w (.cells #[.pointer (some ⟨g, 0, none⟩), .int .u8 tos, .int .u16 id, .bool keep, .int .u8 ttl, .int .u8 pr, .int .u32 src, .int .u32 dst, so, sd, .int .i64 side] 149)
 have C0 := hide (heap_alloc_new w (.cells #[.pointer (some ⟨g, 0, none⟩), .int .u8 tos, .int .u16 id, .bool keep, .int .u8 ttl, .int .u8 pr, .int .u32 src, .int .u32 dst, so, sd, .int .i64 side] 149))
 have HP := hide (parseTcp_any tos id ttl pr src dst keep so sd zd _ hB (hI.later l0) (by omega) hsr hds)
 go_enter Tryz.func191, Tryz.ntmps191
 go_upto_region 1 with fail
 generalize w.alloc _ = w1 at *
 generalize w.heap.size = gx at *
 have k0 := block_cell C0.out
 go_wp2_with fail
 refine HP.out.mono ?_
 rintro e w2 ⟨l2, ⟨h1, rfl⟩ | ⟨h1, os, aO, cO, ad, cd, ho, rfl, hO, hD⟩⟩
 ·clear k0
  unfold zsg
  go_upto_region 2 with fail
  have la := later_allocG w2 (.cells #[.int .u16 0, .int .u16 0, .int .u32 0, .int .u32 0, .int .u8 0, .int .u16 0, .int .u16 0, .slice none 0 0, .slice none 0 0] 162)
  have kn := block_cell (heap_alloc_new w2 (.cells #[.int .u16 0, .int .u16 0, .int .u32 0, .int .u32 0, .int .u8 0, .int .u16 0, .int .u16 0, .slice none 0 0, .slice none 0 0] 162))
  generalize w2.alloc _ = w3 at *
  go_wp2_with fail
  go_ret
  exact ⟨⟨_, rfl⟩, Later.trans l0 (Later.trans l2 la)⟩
 ·clear k0
  go_upto_region 2 with fail
  have la := later_allocG w2 (.cells #[.int .u16 (wat zd 0), .int .u16 (wat zd 2), .int .u32 (wat4 zd 4), .int .u32 (wat4 zd 8), .int .u8 (zd[13]?.getD 0), .int .u16 (wat zd 14), .int .u16 (wat zd 18), .slice aO os.length cO, .slice ad (zd.length - (thd zd).toNat) cd] 162)
  have kn := block_cell (heap_alloc_new w2 (.cells #[.int .u16 (wat zd 0), .int .u16 (wat zd 2), .int .u32 (wat4 zd 4), .int .u32 (wat4 zd 8), .int .u8 (zd[13]?.getD 0), .int .u16 (wat zd 14), .int .u16 (wat zd 18), .slice aO os.length cO, .slice ad (zd.length - (thd zd).toNat) cd] 162))
  generalize w2.alloc _ = w3 at *
  go_wp2_with fail
  go_ret
  exact ⟨⟨_, rfl⟩, Later.trans l0 (Later.trans l2 la)⟩
set_option maxRecDepth 100000 in
set_option maxHeartbeats 4000000 in
theorem gasks_some (g : Nat) (tos id ttl pr src dst : Int) (keep : Bool) (so sd : Value) (side : Int) (zd : List Int) (w : World) (hB : Mt.By zd) (hI : Rd w.heap.size w sd zd) (hl : zd.length ≤ 70000) :
  Calls Tryz.prog 192 #[.agg #[.pointer (some ⟨g, 0, none⟩), .int .u8 tos, .int .u16 id, .bool keep, .int .u8 ttl, .int .u8 pr, .int .u32 src, .int .u32 dst, so, sd, .int .i64 side]] w fun e w' => AsQ e ∧ Later w w' := by
 have l0 := later_allocG w (.cells #[.pointer (some ⟨g, 0, none⟩), .int .u8 tos, .int .u16 id, .bool keep, .int .u8 ttl, .int .u8 pr, .int .u32 src, .int .u32 dst, so, sd, .int .i64 side] 149)
 have C0 := hide (heap_alloc_new w (.cells #[.pointer (some ⟨g, 0, none⟩), .int .u8 tos, .int .u16 id, .bool keep, .int .u8 ttl, .int .u8 pr, .int .u32 src, .int .u32 dst, so, sd, .int .i64 side] 149))
 have HP := hide (parseIcmp_any tos id ttl pr src dst keep so sd zd _ hB (hI.later l0) (by omega))
 go_enter Tryz.func192, Tryz.ntmps192
 go_upto_region 1 with fail
 generalize w.alloc _ = w1 at *
 generalize w.heap.size = gx at *
 have k0 := block_cell C0.out
 go_wp2_with fail
 refine HP.out.mono ?_
 rintro e w2 ⟨l2, ⟨h1, rfl⟩ | ⟨h1, ad, cd, rfl, hD⟩⟩
 ·clear k0
  unfold zm
  go_upto_region 2 with fail
  have la := later_allocG w2 (.cells #[.int .u8 0, .int .u8 0, .int .u32 0, .slice none 0 0] 65)
  have kn := block_cell (heap_alloc_new w2 (.cells #[.int .u8 0, .int .u8 0, .int .u32 0, .slice none 0 0] 65))
  generalize w2.alloc _ = w3 at *
  go_wp2_with fail
  refine (asks_any _ _ _ _ w3).mono ?_
  rintro e w4 ⟨rfl, l4⟩
  go_wp2_with fail
  go_ret
  exact ⟨⟨_, rfl⟩, Later.trans l0 (Later.trans l2 (Later.trans la l4))⟩
 ·clear k0
  go_upto_region 2 with fail
  have la := later_allocG w2 (.cells #[.int .u8 (zd[0]?.getD 0), .int .u8 (zd[1]?.getD 0), .int .u32 (wat4 zd 4), .slice ad (zd.length - 8) cd] 65)
  have kn := block_cell (heap_alloc_new w2 (.cells #[.int .u8 (zd[0]?.getD 0), .int .u8 (zd[1]?.getD 0), .int .u32 (wat4 zd 4), .slice ad (zd.length - 8) cd] 65))
  generalize w2.alloc _ = w3 at *
  go_wp2_with fail
  refine (asks_any _ _ _ _ w3).mono ?_
  rintro e w4 ⟨rfl, l4⟩
  go_wp2_with fail
  go_ret
  exact ⟨⟨_, rfl⟩, Later.trans l0 (Later.trans l2 (Later.trans la l4))⟩
theorem peek_none (base gb : Nat) (ve : Value) (p x d a b now : Int) (W : World) (h : BL 144 base W gb ve []) :
  Calls Tryz.prog 232 #[.pointer (some ⟨gb, 0, none⟩), .agg #[.int .u8 p, .int .u32 x, .int .u32 d, .int .u16 a, .int .u16 b], .int .i64 now] W fun e w' => e = .returned (.tuple #[.agg #[.int .u8 0, .int .u32 0, .int .u32 0, .int .u16 0, .int .u16 0, .int .u32 0, .int .u16 0, .int .i64 0, .int .i64 0], .bool false]) ∧ Later W w' := peek12_any base gb ve [] ⟨p, x, d, a, b⟩ now W h (by simp)
theorem dnat_none (base gr : Nat) (vr : Value) (ls : List Ru) (p d b : Int) (W : World) (h : RL 136 base W gr vr ls) (hn : ∀ y ∈ ls, y.kind ≠ 2) :
  Calls Tryz.prog 235 #[.pointer (some ⟨gr, 0, none⟩), .int .u8 p, .int .u32 d, .int .u16 b] W fun e w' => e = .returned (.tuple #[.agg #[.int .i64 0, .int .u8 0, .int .u32 0, .int .i64 0, .int .u32 0, .int .u16 0, .int .u32 0, .int .u16 0], .bool false]) ∧ Later W w' := by
 have hf := fnd_no (p := dnB p d b) (l := ls) (fun y hy => by unfold dnB; simp [hn y hy])
 have := dnat_any base (some ⟨gr, 0, none⟩) ls p d b W (.inr ⟨gr, vr, rfl, h⟩)
 rw [hf.1, hf.2] at this
 exact this
theorem masq_none (base gr : Nat) (vr : Value) (ls : List Ru) (x : Int) (W : World) (h : RL 136 base W gr vr ls) (hok : okL ls) (hx : 0 ≤ x ∧ x ≤ 4294967295) (hn : ∀ y ∈ ls, y.kind ≠ 1) :
  Calls Tryz.prog 228 #[.pointer (some ⟨gr, 0, none⟩), .int .u32 x] W fun e w' => e = .returned (.tuple #[.agg #[.int .i64 0, .int .u8 0, .int .u32 0, .int .i64 0, .int .u32 0, .int .u16 0, .int .u32 0, .int .u16 0], .bool false]) ∧ Later W w' := by
 have hf := fnd_no (p := mqB x) (l := ls) (fun y hy => by unfold mqB; simp [hn y hy])
 have := masq_any base (some ⟨gr, 0, none⟩) ls x W (.inr ⟨gr, vr, rfl, h⟩) hok hx
 rw [hf.1, hf.2] at this
 exact this
set_option maxRecDepth 100000 in
set_option maxHeartbeats 8000000 in
theorem beginOutside_none (base g : Nat) (s : Gs) (tos id ttl pr src dst : Int) (keep : Bool) (so sd : Value) (side : Int) (p x d a b : Int) (w : World) (h : GI base w g s) (hn : ∀ y ∈ s.ls, y.kind ≠ 2) :
  Calls Tryz.prog 194 #[.agg #[.pointer (some ⟨g, 0, none⟩), .int .u8 tos, .int .u16 id, .bool keep, .int .u8 ttl, .int .u8 pr, .int .u32 src, .int .u32 dst, so, sd, .int .i64 side], .agg #[.int .u8 p, .int .u32 x, .int .u32 d, .int .u16 a, .int .u16 b]] w fun e w' => Gvn e ∧ Later w w' := by
 obtain ⟨l0, c0, c1⟩ := alloc2 w (.cells #[.pointer (some ⟨g, 0, none⟩), .int .u8 tos, .int .u16 id, .bool keep, .int .u8 ttl, .int .u8 pr, .int .u32 src, .int .u32 dst, so, sd, .int .i64 side] 149) (.cells #[.int .u8 p, .int .u32 x, .int .u32 d, .int .u16 a, .int .u16 b] 68)
 have C0 := hide c0
 have C1 := hide c1
 have CG := hide (later_keep l0 h.gc)
 have HPK := hide (fun W (l : Later w W) => peek_none base s.gb s.ve p x d a b s.now W (h.bl.later l))
 have HDN := hide (fun W (l : Later w W) => dnat_none base s.gr s.vr s.ls p d b W (h.rl.later l) hn)
 clear c0 c1 hn h
 go_enter Tryz.func194, Tryz.ntmps194
 go_upto_region 1 with fail
 generalize (w.alloc (.cells #[.pointer (some ⟨g, 0, none⟩), .int .u8 tos, .int .u16 id, .bool keep, .int .u8 ttl, .int .u8 pr, .int .u32 src, .int .u32 dst, so, sd, .int .i64 side] 149)).alloc (.cells #[.int .u8 p, .int .u32 x, .int .u32 d, .int .u16 a, .int .u16 b] 68) = w1 at *
 generalize w.heap.size = gx at C0 C1 ⊢
 have LW0 : Later w w1 := l0
 go_cut [5, 6] (fun v c wx => (∃ gn, v = .pointer (some ⟨gn, 0, none⟩)) ∧ c = .bool false ∧ Hid (Later w1 wx))
 case first =>
  refine wp_calmG ?_
  refine anyU_begin (R1 := Later) (R2 := fun _ _ => True) (D := [16]) 18 rfl (by kernel_rfl) ?_
  have ld : Later w1 w1.drew := Later.drew w1
  generalize w1.drew = Wd at *
  have LWd : Later w Wd := LW0.trans ld
  have q0 : ∀ v1, Later Wd v1 → ∀ j, v1.cell? ⟨gx, j, none⟩ = #[.pointer (some ⟨g, 0, none⟩), .int .u8 tos, .int .u16 id, .bool keep, .int .u8 ttl, .int .u8 pr, .int .u32 src, .int .u32 dst, so, sd, .int .i64 side][j]? := fun v1 hv => block_cell (later_keep (ld.trans hv) C0.out)
  have q1 : ∀ v1, Later Wd v1 → ∀ j, v1.cell? ⟨gx + 1, j, none⟩ = #[.int .u8 p, .int .u32 x, .int .u32 d, .int .u16 a, .int .u16 b][j]? := fun v1 hv => block_cell (later_keep (ld.trans hv) C1.out)
  have q2 : ∀ v1, Later Wd v1 → ∀ j, v1.cell? ⟨g, j, none⟩ = (gtc s).toArray[j]? := fun v1 hv => block_cell (later_keep (ld.trans hv) CG.out)
  unfold gtc at q2
  refine uV Later.pre 0 [1, 2, 3, 4, 11, 12, 13, 14, 16, 17] rfl (by rfl) (by rfl) (by rfl) ⟨_, fun v h => by (go_simp; rfl), ?_⟩; simp only [Act.put, sA, sB, sC]
  refine uV Later.pre 1 [2, 3, 4, 11, 12, 13, 14, 16, 17] rfl (by rfl) (by rfl) (by rfl) ⟨_, fun v h => by (go_simp; rfl), ?_⟩; simp only [Act.put, sA, sB, sC]
  refine uV Later.pre 2 [3, 4, 11, 12, 13, 14, 16, 17] rfl (by rfl) (by rfl) (by rfl) ⟨_, fun v h => by (go_simp; rfl), ?_⟩; simp only [Act.put, sA, sB, sC]
  refine uV Later.pre 3 [4, 11, 12, 13, 14, 16, 17] rfl (by rfl) (by rfl) (by rfl) ⟨_, fun v h => by (go_simp; rfl), ?_⟩; simp only [Act.put, sA, sB, sC]
  refine uV Later.pre 4 [11, 12, 13, 14, 16, 17] rfl (by rfl) (by rfl) (by rfl) ⟨_, fun v h => by (go_simp; rfl), ?_⟩; simp only [Act.put, sA, sB, sC]
  refine uV Later.pre 5 [11, 12, 13, 14, 16, 17] rfl (by rfl) (by rfl) (by rfl) ⟨_, fun v h => by (go_simp; rfl), ?_⟩; simp only [Act.put, sA, sB, sC]
  refine uV Later.pre 6 [7, 8, 9, 10, 11, 12, 13, 14, 16, 17] rfl (by rfl) (by rfl) (by rfl) ⟨_, fun v h => by (go_simp; rfl), ?_⟩; simp only [Act.put, sA, sB, sC]
  refine uV Later.pre 7 [8, 9, 10, 11, 12, 13, 14, 16, 17] rfl (by rfl) (by rfl) (by rfl) ⟨_, fun v h => by (go_simp; rfl), ?_⟩; simp only [Act.put, sA, sB, sC]
  refine uV Later.pre 8 [9, 10, 11, 12, 13, 14, 16, 17] rfl (by rfl) (by rfl) (by rfl) ⟨_, fun v h => by (go_simp; rfl), ?_⟩; simp only [Act.put, sA, sB, sC]
  refine uV Later.pre 9 [10, 11, 12, 13, 14, 16, 17] rfl (by rfl) (by rfl) (by rfl) ⟨_, fun v h => by (go_simp; rfl), ?_⟩; simp only [Act.put, sA, sB, sC]
  refine uV Later.pre 10 [11, 12, 13, 14, 16, 17] rfl (by rfl) (by rfl) (by rfl) ⟨_, fun v h => by (go_simp; rfl), ?_⟩; simp only [Act.put, sA, sB, sC]
  clear q0 q1 q2
  refine anyU_two 11 15 rfl rfl (by kernel_rfl) (by rfl) (by rfl) ?ca ?al
  case ca =>
   refine wp_enter 232 #[.pointer (some ⟨s.gb, 0, none⟩), .agg #[.int .u8 p, .int .u32 x, .int .u32 d, .int .u16 a, .int .u16 b], .int .i64 s.now] (by go_simp) ?_
   refine (HPK.out Wd LWd).mono ?_
   rintro e W1 ⟨rfl, l1⟩
   refine ⟨Rj_out (by rfl) l1, ?_⟩
   simp only [Act.put, sA, sB, sC]
   refine uV Later.pre 12 [13, 14, 16, 17] rfl (by rfl) (by rfl) (by rfl) ⟨_, fun v h => by (go_simp; rfl), ?_⟩; simp only [Act.put, sA, sB, sC]
   refine uV Later.pre 13 [16, 17] rfl (by rfl) (by rfl) (by rfl) ⟨_, fun v h => by (go_simp; rfl), ?_⟩; simp only [Act.put, sA, sB, sC]
   have HSZ := (ld.trans l1).size
   refine anyU_two 14 15 rfl rfl (by kernel_rfl) (by rfl) (by rfl) ?xt1415 ?yt1415
   case xt1415 =>
    refine wp_value (w' := W1) (.bool false) (by go_simp) ?_
    refine ⟨Rj_out (by rfl) (Later.refl _), ?_⟩
    simp only [Act.put, sA, sB, sC]
    refine anyU_one 15 rfl (by kernel_rfl) (by rfl) ?_
    have la := later_allocG W1 (.cells #[.int .u8 0, .int .u32 0, .int .u32 0, .int .u16 0, .int .u16 0, .int .u32 0, .int .u16 0, .int .i64 0, .int .i64 0] 159)
    have HA0 := heap_alloc_new W1 (.cells #[.int .u8 0, .int .u32 0, .int .u32 0, .int .u16 0, .int .u16 0, .int .u32 0, .int .u16 0, .int .i64 0, .int .i64 0] 159)
    unfold Oper.wp
    go_simp
    refine ⟨Rj_out (by rfl) la, ?_⟩
    change wpAnyU _ _ _ _ _ _ _ _ _ _ (W1.alloc (.cells #[.int .u8 0, .int .u32 0, .int .u32 0, .int .u16 0, .int .u16 0, .int .u32 0, .int .u16 0, .int .i64 0, .int .i64 0] 159))
    have hgn : w1.heap.size ≤ W1.heap.size := HSZ
    generalize W1.alloc (.cells #[.int .u8 0, .int .u32 0, .int .u32 0, .int .u16 0, .int .u16 0, .int .u32 0, .int .u16 0, .int .i64 0, .int .i64 0] 159) = W5 at *
    generalize W1.heap.size = gn at *
    have HA := HA0
    have LL := ld.trans (l1.trans la)
    refine anyU_one 16 rfl (by kernel_rfl) (by rfl) ?_
    have kA := block_cell HA
    have fA := block_frozen HA
    unfold Oper.wp
    go_simp
    refine ⟨Rj_in (by rfl) trivial, ?_⟩
    clear kA fA
    generalize hV : World.setCell _ ⟨gn, 8, none⟩ _ = V8
    have hV9 : V8 = putRow W5 gn 0 [.int .u8 0, .int .u32 0, .int .u32 0, .int .u16 0, .int .u16 0, .int .u32 0, .int .u16 0, .int .i64 0, .int .i64 0] := hV.symm
    have hb8 : But (fun b => b = gn) W5 V8 := by rw [hV9]; exact putRow_but (E := fun b => b = gn) (n := gn) rfl _ _ _ _ (But.refl _ _)
    have p8 := putRow_all [.int .u8 0, .int .u32 0, .int .u32 0, .int .u16 0, .int .u16 0, .int .u32 0, .int .u16 0, .int .i64 0, .int .i64 0] HA rfl
    rw [← hV9] at p8
    have PP := hide p8
    clear hV hV9 p8
    have BB := hide (Below.trans LL (hb8.below LL.size (fun k h e => by omega)))
    refine anyU_one 17 rfl (by kernel_rfl) (by rfl) ?_
    refine wp_value (w' := V8) (.bool false) (by go_simp) ?_
    refine ⟨Rj_out (by rfl) (Later.refl _), ?_⟩
    simp only [Act.put, sA, sB, sC]
    refine anyU_done (by kernel_rfl) ?_
    refine ⟨rfl, ?_⟩
    go_wp2_with fail
    go_meet
    case rel => exact ⟨⟨gn, rfl⟩, rfl, BB⟩
   case yt1415 =>
    have la := later_allocG W1 (.cells #[.int .u8 0, .int .u32 0, .int .u32 0, .int .u16 0, .int .u16 0, .int .u32 0, .int .u16 0, .int .i64 0, .int .i64 0] 159)
    have HA0 := heap_alloc_new W1 (.cells #[.int .u8 0, .int .u32 0, .int .u32 0, .int .u16 0, .int .u16 0, .int .u32 0, .int .u16 0, .int .i64 0, .int .i64 0] 159)
    unfold Oper.wp
    go_simp
    refine ⟨Rj_out (by rfl) la, ?_⟩
    change wpAnyU _ _ _ _ _ _ _ _ _ _ (W1.alloc (.cells #[.int .u8 0, .int .u32 0, .int .u32 0, .int .u16 0, .int .u16 0, .int .u32 0, .int .u16 0, .int .i64 0, .int .i64 0] 159))
    have hgn : w1.heap.size ≤ W1.heap.size := HSZ
    generalize W1.alloc (.cells #[.int .u8 0, .int .u32 0, .int .u32 0, .int .u16 0, .int .u16 0, .int .u32 0, .int .u16 0, .int .i64 0, .int .i64 0] 159) = W5 at *
    generalize W1.heap.size = gn at *
    have HA := HA0
    have LL := ld.trans (l1.trans la)
    refine anyU_two 14 16 rfl rfl (by kernel_rfl) (by rfl) (by rfl) ?xt1416 ?yt1416
    case xt1416 =>
     refine wp_value (w' := W5) (.bool false) (by go_simp) ?_
     refine ⟨Rj_out (by rfl) (Later.refl _), ?_⟩
     simp only [Act.put, sA, sB, sC]
     refine anyU_one 16 rfl (by kernel_rfl) (by rfl) ?_
     have kA := block_cell HA
     have fA := block_frozen HA
     unfold Oper.wp
     go_simp
     refine ⟨Rj_in (by rfl) trivial, ?_⟩
     clear kA fA
     generalize hV : World.setCell _ ⟨gn, 8, none⟩ _ = V8
     have hV9 : V8 = putRow W5 gn 0 [.int .u8 0, .int .u32 0, .int .u32 0, .int .u16 0, .int .u16 0, .int .u32 0, .int .u16 0, .int .i64 0, .int .i64 0] := hV.symm
     have hb8 : But (fun b => b = gn) W5 V8 := by rw [hV9]; exact putRow_but (E := fun b => b = gn) (n := gn) rfl _ _ _ _ (But.refl _ _)
     have p8 := putRow_all [.int .u8 0, .int .u32 0, .int .u32 0, .int .u16 0, .int .u16 0, .int .u32 0, .int .u16 0, .int .i64 0, .int .i64 0] HA rfl
     rw [← hV9] at p8
     have PP := hide p8
     clear hV hV9 p8
     have BB := hide (Below.trans LL (hb8.below LL.size (fun k h e => by omega)))
     refine anyU_one 17 rfl (by kernel_rfl) (by rfl) ?_
     refine wp_value (w' := V8) (.bool false) (by go_simp) ?_
     refine ⟨Rj_out (by rfl) (Later.refl _), ?_⟩
     simp only [Act.put, sA, sB, sC]
     refine anyU_done (by kernel_rfl) ?_
     refine ⟨rfl, ?_⟩
     go_wp2_with fail
     go_meet
     case rel => exact ⟨⟨gn, rfl⟩, rfl, BB⟩
    case yt1416 =>
     have kA := block_cell HA
     have fA := block_frozen HA
     unfold Oper.wp
     go_simp
     refine ⟨Rj_in (by rfl) trivial, ?_⟩
     clear kA fA
     generalize hV : World.setCell _ ⟨gn, 8, none⟩ _ = V8
     have hV9 : V8 = putRow W5 gn 0 [.int .u8 0, .int .u32 0, .int .u32 0, .int .u16 0, .int .u16 0, .int .u32 0, .int .u16 0, .int .i64 0, .int .i64 0] := hV.symm
     have hb8 : But (fun b => b = gn) W5 V8 := by rw [hV9]; exact putRow_but (E := fun b => b = gn) (n := gn) rfl _ _ _ _ (But.refl _ _)
     have p8 := putRow_all [.int .u8 0, .int .u32 0, .int .u32 0, .int .u16 0, .int .u16 0, .int .u32 0, .int .u16 0, .int .i64 0, .int .i64 0] HA rfl
     rw [← hV9] at p8
     have PP := hide p8
     clear hV hV9 p8
     have BB := hide (Below.trans LL (hb8.below LL.size (fun k h e => by omega)))
     refine anyU_one 14 rfl (by kernel_rfl) (by rfl) ?_
     refine wp_value (w' := V8) (.bool false) (by go_simp) ?_
     refine ⟨Rj_out (by rfl) (Later.refl _), ?_⟩
     simp only [Act.put, sA, sB, sC]
     refine anyU_one 17 rfl (by kernel_rfl) (by rfl) ?_
     refine wp_value (w' := V8) (.bool false) (by go_simp) ?_
     refine ⟨Rj_out (by rfl) (Later.refl _), ?_⟩
     simp only [Act.put, sA, sB, sC]
     refine anyU_done (by kernel_rfl) ?_
     refine ⟨rfl, ?_⟩
     go_wp2_with fail
     go_meet
     case rel => exact ⟨⟨gn, rfl⟩, rfl, BB⟩
  case al =>
   have HSZ := ld.size
   have la := later_allocG Wd (.cells #[.int .u8 0, .int .u32 0, .int .u32 0, .int .u16 0, .int .u16 0, .int .u32 0, .int .u16 0, .int .i64 0, .int .i64 0] 159)
   have HA0 := heap_alloc_new Wd (.cells #[.int .u8 0, .int .u32 0, .int .u32 0, .int .u16 0, .int .u16 0, .int .u32 0, .int .u16 0, .int .i64 0, .int .i64 0] 159)
   unfold Oper.wp
   go_simp
   refine ⟨Rj_out (by rfl) la, ?_⟩
   change wpAnyU _ _ _ _ _ _ _ _ _ _ (Wd.alloc (.cells #[.int .u8 0, .int .u32 0, .int .u32 0, .int .u16 0, .int .u16 0, .int .u32 0, .int .u16 0, .int .i64 0, .int .i64 0] 159))
   have hgn : w1.heap.size ≤ Wd.heap.size := HSZ
   generalize Wd.alloc (.cells #[.int .u8 0, .int .u32 0, .int .u32 0, .int .u16 0, .int .u16 0, .int .u32 0, .int .u16 0, .int .i64 0, .int .i64 0] 159) = W3 at *
   generalize Wd.heap.size = gn at *
   refine anyU_one 11 rfl (by kernel_rfl) (by rfl) ?_
   refine wp_enter 232 #[.pointer (some ⟨s.gb, 0, none⟩), .agg #[.int .u8 p, .int .u32 x, .int .u32 d, .int .u16 a, .int .u16 b], .int .i64 s.now] (by go_simp) ?_
   refine (HPK.out W3 (LWd.trans la)).mono ?_
   rintro e W5 ⟨rfl, l1⟩
   refine ⟨Rj_out (by rfl) l1, ?_⟩
   simp only [Act.put, sA, sB, sC]
   refine uV Later.pre 12 [13, 14, 16, 17] rfl (by rfl) (by rfl) (by rfl) ⟨_, fun v h => by (go_simp; rfl), ?_⟩; simp only [Act.put, sA, sB, sC]
   refine uV Later.pre 13 [16, 17] rfl (by rfl) (by rfl) (by rfl) ⟨_, fun v h => by (go_simp; rfl), ?_⟩; simp only [Act.put, sA, sB, sC]
   have HA := later_keep l1 HA0
   have LL := ld.trans (la.trans l1)
   refine anyU_two 14 16 rfl rfl (by kernel_rfl) (by rfl) (by rfl) ?xt1416 ?yt1416
   case xt1416 =>
    refine wp_value (w' := W5) (.bool false) (by go_simp) ?_
    refine ⟨Rj_out (by rfl) (Later.refl _), ?_⟩
    simp only [Act.put, sA, sB, sC]
    refine anyU_one 16 rfl (by kernel_rfl) (by rfl) ?_
    have kA := block_cell HA
    have fA := block_frozen HA
    unfold Oper.wp
    go_simp
    refine ⟨Rj_in (by rfl) trivial, ?_⟩
    clear kA fA
    generalize hV : World.setCell _ ⟨gn, 8, none⟩ _ = V8
    have hV9 : V8 = putRow W5 gn 0 [.int .u8 0, .int .u32 0, .int .u32 0, .int .u16 0, .int .u16 0, .int .u32 0, .int .u16 0, .int .i64 0, .int .i64 0] := hV.symm
    have hb8 : But (fun b => b = gn) W5 V8 := by rw [hV9]; exact putRow_but (E := fun b => b = gn) (n := gn) rfl _ _ _ _ (But.refl _ _)
    have p8 := putRow_all [.int .u8 0, .int .u32 0, .int .u32 0, .int .u16 0, .int .u16 0, .int .u32 0, .int .u16 0, .int .i64 0, .int .i64 0] HA rfl
    rw [← hV9] at p8
    have PP := hide p8
    clear hV hV9 p8
    have BB := hide (Below.trans LL (hb8.below LL.size (fun k h e => by omega)))
    refine anyU_one 17 rfl (by kernel_rfl) (by rfl) ?_
    refine wp_value (w' := V8) (.bool false) (by go_simp) ?_
    refine ⟨Rj_out (by rfl) (Later.refl _), ?_⟩
    simp only [Act.put, sA, sB, sC]
    refine anyU_done (by kernel_rfl) ?_
    refine ⟨rfl, ?_⟩
    go_wp2_with fail
    go_meet
    case rel => exact ⟨⟨gn, rfl⟩, rfl, BB⟩
   case yt1416 =>
    have kA := block_cell HA
    have fA := block_frozen HA
    unfold Oper.wp
    go_simp
    refine ⟨Rj_in (by rfl) trivial, ?_⟩
    clear kA fA
    generalize hV : World.setCell _ ⟨gn, 8, none⟩ _ = V8
    have hV9 : V8 = putRow W5 gn 0 [.int .u8 0, .int .u32 0, .int .u32 0, .int .u16 0, .int .u16 0, .int .u32 0, .int .u16 0, .int .i64 0, .int .i64 0] := hV.symm
    have hb8 : But (fun b => b = gn) W5 V8 := by rw [hV9]; exact putRow_but (E := fun b => b = gn) (n := gn) rfl _ _ _ _ (But.refl _ _)
    have p8 := putRow_all [.int .u8 0, .int .u32 0, .int .u32 0, .int .u16 0, .int .u16 0, .int .u32 0, .int .u16 0, .int .i64 0, .int .i64 0] HA rfl
    rw [← hV9] at p8
    have PP := hide p8
    clear hV hV9 p8
    have BB := hide (Below.trans LL (hb8.below LL.size (fun k h e => by omega)))
    refine anyU_one 14 rfl (by kernel_rfl) (by rfl) ?_
    refine wp_value (w' := V8) (.bool false) (by go_simp) ?_
    refine ⟨Rj_out (by rfl) (Later.refl _), ?_⟩
    simp only [Act.put, sA, sB, sC]
    refine anyU_one 17 rfl (by kernel_rfl) (by rfl) ?_
    refine wp_value (w' := V8) (.bool false) (by go_simp) ?_
    refine ⟨Rj_out (by rfl) (Later.refl _), ?_⟩
    simp only [Act.put, sA, sB, sC]
    refine anyU_done (by kernel_rfl) ?_
    refine ⟨rfl, ?_⟩
    go_wp2_with fail
    go_meet
    case rel => exact ⟨⟨gn, rfl⟩, rfl, BB⟩
 case rest =>
  obtain ⟨⟨gn, rfl⟩, rfl, HL2⟩ := hcut
  obtain ⟨w2, hw2⟩ : ∃ w2, w2 = wc := ⟨_, rfl⟩
  subst hw2
  have L2 := HL2.out
  have D0 := hide (later_keep L2 C0.out)
  have D1 := hide (later_keep L2 C1.out)
  have DG := hide (later_keep L2 CG.out)
  have LW2 : Later w w2 := LW0.trans L2
  clear C0 C1 CG LW0 HL2 HPK
  go_upto_region 6 with fail
  have LW0 := LW2
  go_cut [8, 9] (fun v c wx => (∃ gn, v = .pointer (some ⟨gn, 0, none⟩)) ∧ c = .bool false ∧ Hid (Later w2 wx))
  case first =>
   refine wp_calmG ?_
   refine anyU_begin (R1 := Later) (R2 := fun _ _ => True) (D := [16]) 18 rfl (by kernel_rfl) ?_
   have ld : Later w2 w2.drew := Later.drew w2
   generalize w2.drew = Wd at *
   have LWd : Later w Wd := LW0.trans ld
   have q0 : ∀ v1, Later Wd v1 → ∀ j, v1.cell? ⟨gx, j, none⟩ = #[.pointer (some ⟨g, 0, none⟩), .int .u8 tos, .int .u16 id, .bool keep, .int .u8 ttl, .int .u8 pr, .int .u32 src, .int .u32 dst, so, sd, .int .i64 side][j]? := fun v1 hv => block_cell (later_keep (ld.trans hv) D0.out)
   have q1 : ∀ v1, Later Wd v1 → ∀ j, v1.cell? ⟨gx + 1, j, none⟩ = #[.int .u8 p, .int .u32 x, .int .u32 d, .int .u16 a, .int .u16 b][j]? := fun v1 hv => block_cell (later_keep (ld.trans hv) D1.out)
   have q2 : ∀ v1, Later Wd v1 → ∀ j, v1.cell? ⟨g, j, none⟩ = (gtc s).toArray[j]? := fun v1 hv => block_cell (later_keep (ld.trans hv) DG.out)
   unfold gtc at q2
   refine uV Later.pre 0 [1, 2, 3, 4, 11, 12, 13, 14, 16, 17] rfl (by rfl) (by rfl) (by rfl) ⟨_, fun v h => by (go_simp; rfl), ?_⟩; simp only [Act.put, sA, sB, sC]
   refine uV Later.pre 1 [2, 3, 4, 11, 12, 13, 14, 16, 17] rfl (by rfl) (by rfl) (by rfl) ⟨_, fun v h => by (go_simp; rfl), ?_⟩; simp only [Act.put, sA, sB, sC]
   refine uV Later.pre 2 [3, 4, 11, 12, 13, 14, 16, 17] rfl (by rfl) (by rfl) (by rfl) ⟨_, fun v h => by (go_simp; rfl), ?_⟩; simp only [Act.put, sA, sB, sC]
   refine uV Later.pre 3 [4, 11, 12, 13, 14, 16, 17] rfl (by rfl) (by rfl) (by rfl) ⟨_, fun v h => by (go_simp; rfl), ?_⟩; simp only [Act.put, sA, sB, sC]
   refine uV Later.pre 4 [11, 12, 13, 14, 16, 17] rfl (by rfl) (by rfl) (by rfl) ⟨_, fun v h => by (go_simp; rfl), ?_⟩; simp only [Act.put, sA, sB, sC]
   refine uV Later.pre 5 [6, 11, 12, 13, 14, 16, 17] rfl (by rfl) (by rfl) (by rfl) ⟨_, fun v h => by (go_simp; rfl), ?_⟩; simp only [Act.put, sA, sB, sC]
   refine uV Later.pre 6 [11, 12, 13, 14, 16, 17] rfl (by rfl) (by rfl) (by rfl) ⟨_, fun v h => by (go_simp; rfl), ?_⟩; simp only [Act.put, sA, sB, sC]
   refine uV Later.pre 7 [8, 11, 12, 13, 14, 16, 17] rfl (by rfl) (by rfl) (by rfl) ⟨_, fun v h => by (go_simp; rfl), ?_⟩; simp only [Act.put, sA, sB, sC]
   refine uV Later.pre 8 [11, 12, 13, 14, 16, 17] rfl (by rfl) (by rfl) (by rfl) ⟨_, fun v h => by (go_simp; rfl), ?_⟩; simp only [Act.put, sA, sB, sC]
   refine uV Later.pre 9 [10, 11, 12, 13, 14, 16, 17] rfl (by rfl) (by rfl) (by rfl) ⟨_, fun v h => by (go_simp; rfl), ?_⟩; simp only [Act.put, sA, sB, sC]
   refine uV Later.pre 10 [11, 12, 13, 14, 16, 17] rfl (by rfl) (by rfl) (by rfl) ⟨_, fun v h => by (go_simp; rfl), ?_⟩; simp only [Act.put, sA, sB, sC]
   clear q0 q1 q2
   refine anyU_two 11 15 rfl rfl (by kernel_rfl) (by rfl) (by rfl) ?ca ?al
   case ca =>
    refine wp_enter 235 #[.pointer (some ⟨s.gr, 0, none⟩), .int .u8 p, .int .u32 d, .int .u16 b] (by go_simp) ?_
    refine (HDN.out Wd LWd).mono ?_
    rintro e W1 ⟨rfl, l1⟩
    refine ⟨Rj_out (by rfl) l1, ?_⟩
    simp only [Act.put, sA, sB, sC]
    refine uV Later.pre 12 [13, 14, 16, 17] rfl (by rfl) (by rfl) (by rfl) ⟨_, fun v h => by (go_simp; rfl), ?_⟩; simp only [Act.put, sA, sB, sC]
    refine uV Later.pre 13 [16, 17] rfl (by rfl) (by rfl) (by rfl) ⟨_, fun v h => by (go_simp; rfl), ?_⟩; simp only [Act.put, sA, sB, sC]
    have HSZ := (ld.trans l1).size
    refine anyU_two 14 15 rfl rfl (by kernel_rfl) (by rfl) (by rfl) ?xt1415 ?yt1415
    case xt1415 =>
     refine wp_value (w' := W1) (.bool false) (by go_simp) ?_
     refine ⟨Rj_out (by rfl) (Later.refl _), ?_⟩
     simp only [Act.put, sA, sB, sC]
     refine anyU_one 15 rfl (by kernel_rfl) (by rfl) ?_
     have la := later_allocG W1 (.cells #[.int .i64 0, .int .u8 0, .int .u32 0, .int .i64 0, .int .u32 0, .int .u16 0, .int .u32 0, .int .u16 0] 35)
     have HA0 := heap_alloc_new W1 (.cells #[.int .i64 0, .int .u8 0, .int .u32 0, .int .i64 0, .int .u32 0, .int .u16 0, .int .u32 0, .int .u16 0] 35)
     unfold Oper.wp
     go_simp
     refine ⟨Rj_out (by rfl) la, ?_⟩
     change wpAnyU _ _ _ _ _ _ _ _ _ _ (W1.alloc (.cells #[.int .i64 0, .int .u8 0, .int .u32 0, .int .i64 0, .int .u32 0, .int .u16 0, .int .u32 0, .int .u16 0] 35))
     have hgn : w2.heap.size ≤ W1.heap.size := HSZ
     generalize W1.alloc (.cells #[.int .i64 0, .int .u8 0, .int .u32 0, .int .i64 0, .int .u32 0, .int .u16 0, .int .u32 0, .int .u16 0] 35) = W5 at *
     generalize W1.heap.size = gn at *
     have HA := HA0
     have LL := ld.trans (l1.trans la)
     refine anyU_one 16 rfl (by kernel_rfl) (by rfl) ?_
     have kA := block_cell HA
     have fA := block_frozen HA
     unfold Oper.wp
     go_simp
     refine ⟨Rj_in (by rfl) trivial, ?_⟩
     clear kA fA
     generalize hV : World.setCell _ ⟨gn, 7, none⟩ _ = V8
     have hV9 : V8 = putRow W5 gn 0 [.int .i64 0, .int .u8 0, .int .u32 0, .int .i64 0, .int .u32 0, .int .u16 0, .int .u32 0, .int .u16 0] := hV.symm
     have hb8 : But (fun b => b = gn) W5 V8 := by rw [hV9]; exact putRow_but (E := fun b => b = gn) (n := gn) rfl _ _ _ _ (But.refl _ _)
     have p8 := putRow_all [.int .i64 0, .int .u8 0, .int .u32 0, .int .i64 0, .int .u32 0, .int .u16 0, .int .u32 0, .int .u16 0] HA rfl
     rw [← hV9] at p8
     have PP := hide p8
     clear hV hV9 p8
     have BB := hide (Below.trans LL (hb8.below LL.size (fun k h e => by omega)))
     refine anyU_one 17 rfl (by kernel_rfl) (by rfl) ?_
     refine wp_value (w' := V8) (.bool false) (by go_simp) ?_
     refine ⟨Rj_out (by rfl) (Later.refl _), ?_⟩
     simp only [Act.put, sA, sB, sC]
     refine anyU_done (by kernel_rfl) ?_
     refine ⟨rfl, ?_⟩
     go_wp2_with fail
     go_meet
     case rel => exact ⟨⟨gn, rfl⟩, rfl, BB⟩
    case yt1415 =>
     have la := later_allocG W1 (.cells #[.int .i64 0, .int .u8 0, .int .u32 0, .int .i64 0, .int .u32 0, .int .u16 0, .int .u32 0, .int .u16 0] 35)
     have HA0 := heap_alloc_new W1 (.cells #[.int .i64 0, .int .u8 0, .int .u32 0, .int .i64 0, .int .u32 0, .int .u16 0, .int .u32 0, .int .u16 0] 35)
     unfold Oper.wp
     go_simp
     refine ⟨Rj_out (by rfl) la, ?_⟩
     change wpAnyU _ _ _ _ _ _ _ _ _ _ (W1.alloc (.cells #[.int .i64 0, .int .u8 0, .int .u32 0, .int .i64 0, .int .u32 0, .int .u16 0, .int .u32 0, .int .u16 0] 35))
     have hgn : w2.heap.size ≤ W1.heap.size := HSZ
     generalize W1.alloc (.cells #[.int .i64 0, .int .u8 0, .int .u32 0, .int .i64 0, .int .u32 0, .int .u16 0, .int .u32 0, .int .u16 0] 35) = W5 at *
     generalize W1.heap.size = gn at *
     have HA := HA0
     have LL := ld.trans (l1.trans la)
     refine anyU_two 14 16 rfl rfl (by kernel_rfl) (by rfl) (by rfl) ?xt1416 ?yt1416
     case xt1416 =>
      refine wp_value (w' := W5) (.bool false) (by go_simp) ?_
      refine ⟨Rj_out (by rfl) (Later.refl _), ?_⟩
      simp only [Act.put, sA, sB, sC]
      refine anyU_one 16 rfl (by kernel_rfl) (by rfl) ?_
      have kA := block_cell HA
      have fA := block_frozen HA
      unfold Oper.wp
      go_simp
      refine ⟨Rj_in (by rfl) trivial, ?_⟩
      clear kA fA
      generalize hV : World.setCell _ ⟨gn, 7, none⟩ _ = V8
      have hV9 : V8 = putRow W5 gn 0 [.int .i64 0, .int .u8 0, .int .u32 0, .int .i64 0, .int .u32 0, .int .u16 0, .int .u32 0, .int .u16 0] := hV.symm
      have hb8 : But (fun b => b = gn) W5 V8 := by rw [hV9]; exact putRow_but (E := fun b => b = gn) (n := gn) rfl _ _ _ _ (But.refl _ _)
      have p8 := putRow_all [.int .i64 0, .int .u8 0, .int .u32 0, .int .i64 0, .int .u32 0, .int .u16 0, .int .u32 0, .int .u16 0] HA rfl
      rw [← hV9] at p8
      have PP := hide p8
      clear hV hV9 p8
      have BB := hide (Below.trans LL (hb8.below LL.size (fun k h e => by omega)))
      refine anyU_one 17 rfl (by kernel_rfl) (by rfl) ?_
      refine wp_value (w' := V8) (.bool false) (by go_simp) ?_
      refine ⟨Rj_out (by rfl) (Later.refl _), ?_⟩
      simp only [Act.put, sA, sB, sC]
      refine anyU_done (by kernel_rfl) ?_
      refine ⟨rfl, ?_⟩
      go_wp2_with fail
      go_meet
      case rel => exact ⟨⟨gn, rfl⟩, rfl, BB⟩
     case yt1416 =>
      have kA := block_cell HA
      have fA := block_frozen HA
      unfold Oper.wp
      go_simp
      refine ⟨Rj_in (by rfl) trivial, ?_⟩
      clear kA fA
      generalize hV : World.setCell _ ⟨gn, 7, none⟩ _ = V8
      have hV9 : V8 = putRow W5 gn 0 [.int .i64 0, .int .u8 0, .int .u32 0, .int .i64 0, .int .u32 0, .int .u16 0, .int .u32 0, .int .u16 0] := hV.symm
      have hb8 : But (fun b => b = gn) W5 V8 := by rw [hV9]; exact putRow_but (E := fun b => b = gn) (n := gn) rfl _ _ _ _ (But.refl _ _)
      have p8 := putRow_all [.int .i64 0, .int .u8 0, .int .u32 0, .int .i64 0, .int .u32 0, .int .u16 0, .int .u32 0, .int .u16 0] HA rfl
      rw [← hV9] at p8
      have PP := hide p8
      clear hV hV9 p8
      have BB := hide (Below.trans LL (hb8.below LL.size (fun k h e => by omega)))
      refine anyU_one 14 rfl (by kernel_rfl) (by rfl) ?_
      refine wp_value (w' := V8) (.bool false) (by go_simp) ?_
      refine ⟨Rj_out (by rfl) (Later.refl _), ?_⟩
      simp only [Act.put, sA, sB, sC]
      refine anyU_one 17 rfl (by kernel_rfl) (by rfl) ?_
      refine wp_value (w' := V8) (.bool false) (by go_simp) ?_
      refine ⟨Rj_out (by rfl) (Later.refl _), ?_⟩
      simp only [Act.put, sA, sB, sC]
      refine anyU_done (by kernel_rfl) ?_
      refine ⟨rfl, ?_⟩
      go_wp2_with fail
      go_meet
      case rel => exact ⟨⟨gn, rfl⟩, rfl, BB⟩
   case al =>
    have HSZ := ld.size
    have la := later_allocG Wd (.cells #[.int .i64 0, .int .u8 0, .int .u32 0, .int .i64 0, .int .u32 0, .int .u16 0, .int .u32 0, .int .u16 0] 35)
    have HA0 := heap_alloc_new Wd (.cells #[.int .i64 0, .int .u8 0, .int .u32 0, .int .i64 0, .int .u32 0, .int .u16 0, .int .u32 0, .int .u16 0] 35)
    unfold Oper.wp
    go_simp
    refine ⟨Rj_out (by rfl) la, ?_⟩
    change wpAnyU _ _ _ _ _ _ _ _ _ _ (Wd.alloc (.cells #[.int .i64 0, .int .u8 0, .int .u32 0, .int .i64 0, .int .u32 0, .int .u16 0, .int .u32 0, .int .u16 0] 35))
    have hgn : w2.heap.size ≤ Wd.heap.size := HSZ
    generalize Wd.alloc (.cells #[.int .i64 0, .int .u8 0, .int .u32 0, .int .i64 0, .int .u32 0, .int .u16 0, .int .u32 0, .int .u16 0] 35) = W3 at *
    generalize Wd.heap.size = gn at *
    refine anyU_one 11 rfl (by kernel_rfl) (by rfl) ?_
    refine wp_enter 235 #[.pointer (some ⟨s.gr, 0, none⟩), .int .u8 p, .int .u32 d, .int .u16 b] (by go_simp) ?_
    refine (HDN.out W3 (LWd.trans la)).mono ?_
    rintro e W5 ⟨rfl, l1⟩
    refine ⟨Rj_out (by rfl) l1, ?_⟩
    simp only [Act.put, sA, sB, sC]
    refine uV Later.pre 12 [13, 14, 16, 17] rfl (by rfl) (by rfl) (by rfl) ⟨_, fun v h => by (go_simp; rfl), ?_⟩; simp only [Act.put, sA, sB, sC]
    refine uV Later.pre 13 [16, 17] rfl (by rfl) (by rfl) (by rfl) ⟨_, fun v h => by (go_simp; rfl), ?_⟩; simp only [Act.put, sA, sB, sC]
    have HA := later_keep l1 HA0
    have LL := ld.trans (la.trans l1)
    refine anyU_two 14 16 rfl rfl (by kernel_rfl) (by rfl) (by rfl) ?xt1416 ?yt1416
    case xt1416 =>
     refine wp_value (w' := W5) (.bool false) (by go_simp) ?_
     refine ⟨Rj_out (by rfl) (Later.refl _), ?_⟩
     simp only [Act.put, sA, sB, sC]
     refine anyU_one 16 rfl (by kernel_rfl) (by rfl) ?_
     have kA := block_cell HA
     have fA := block_frozen HA
     unfold Oper.wp
     go_simp
     refine ⟨Rj_in (by rfl) trivial, ?_⟩
     clear kA fA
     generalize hV : World.setCell _ ⟨gn, 7, none⟩ _ = V8
     have hV9 : V8 = putRow W5 gn 0 [.int .i64 0, .int .u8 0, .int .u32 0, .int .i64 0, .int .u32 0, .int .u16 0, .int .u32 0, .int .u16 0] := hV.symm
     have hb8 : But (fun b => b = gn) W5 V8 := by rw [hV9]; exact putRow_but (E := fun b => b = gn) (n := gn) rfl _ _ _ _ (But.refl _ _)
     have p8 := putRow_all [.int .i64 0, .int .u8 0, .int .u32 0, .int .i64 0, .int .u32 0, .int .u16 0, .int .u32 0, .int .u16 0] HA rfl
     rw [← hV9] at p8
     have PP := hide p8
     clear hV hV9 p8
     have BB := hide (Below.trans LL (hb8.below LL.size (fun k h e => by omega)))
     refine anyU_one 17 rfl (by kernel_rfl) (by rfl) ?_
     refine wp_value (w' := V8) (.bool false) (by go_simp) ?_
     refine ⟨Rj_out (by rfl) (Later.refl _), ?_⟩
     simp only [Act.put, sA, sB, sC]
     refine anyU_done (by kernel_rfl) ?_
     refine ⟨rfl, ?_⟩
     go_wp2_with fail
     go_meet
     case rel => exact ⟨⟨gn, rfl⟩, rfl, BB⟩
    case yt1416 =>
     have kA := block_cell HA
     have fA := block_frozen HA
     unfold Oper.wp
     go_simp
     refine ⟨Rj_in (by rfl) trivial, ?_⟩
     clear kA fA
     generalize hV : World.setCell _ ⟨gn, 7, none⟩ _ = V8
     have hV9 : V8 = putRow W5 gn 0 [.int .i64 0, .int .u8 0, .int .u32 0, .int .i64 0, .int .u32 0, .int .u16 0, .int .u32 0, .int .u16 0] := hV.symm
     have hb8 : But (fun b => b = gn) W5 V8 := by rw [hV9]; exact putRow_but (E := fun b => b = gn) (n := gn) rfl _ _ _ _ (But.refl _ _)
     have p8 := putRow_all [.int .i64 0, .int .u8 0, .int .u32 0, .int .i64 0, .int .u32 0, .int .u16 0, .int .u32 0, .int .u16 0] HA rfl
     rw [← hV9] at p8
     have PP := hide p8
     clear hV hV9 p8
     have BB := hide (Below.trans LL (hb8.below LL.size (fun k h e => by omega)))
     refine anyU_one 14 rfl (by kernel_rfl) (by rfl) ?_
     refine wp_value (w' := V8) (.bool false) (by go_simp) ?_
     refine ⟨Rj_out (by rfl) (Later.refl _), ?_⟩
     simp only [Act.put, sA, sB, sC]
     refine anyU_one 17 rfl (by kernel_rfl) (by rfl) ?_
     refine wp_value (w' := V8) (.bool false) (by go_simp) ?_
     refine ⟨Rj_out (by rfl) (Later.refl _), ?_⟩
     simp only [Act.put, sA, sB, sC]
     refine anyU_done (by kernel_rfl) ?_
     refine ⟨rfl, ?_⟩
     go_wp2_with fail
     go_meet
     case rel => exact ⟨⟨gn, rfl⟩, rfl, BB⟩
  case rest =>
   obtain ⟨⟨gm, rfl⟩, rfl, HL3⟩ := hcut
   have L3 := HL3.out
   go_wp2_with fail
   refine (grefuse_yes 3 _).mono ?_
   rintro e w4 ⟨rfl, rfl⟩
   exact ⟨rfl, ⟨3, by decide, rfl⟩, LW2.trans L3⟩
set_option maxRecDepth 100000 in
set_option maxHeartbeats 8000000 in
theorem beginInside_none (base g : Nat) (s : Gs) (tos id ttl pr src dst : Int) (keep : Bool) (so sd : Value) (side : Int) (p x d a b : Int) (w : World) (h : GI base w g s) (hok : okL s.ls) (hx : 0 ≤ x ∧ x ≤ 4294967295) (hn : ∀ y ∈ s.ls, y.kind ≠ 1) :
  Calls Tryz.prog 193 #[.agg #[.pointer (some ⟨g, 0, none⟩), .int .u8 tos, .int .u16 id, .bool keep, .int .u8 ttl, .int .u8 pr, .int .u32 src, .int .u32 dst, so, sd, .int .i64 side], .agg #[.int .u8 p, .int .u32 x, .int .u32 d, .int .u16 a, .int .u16 b]] w fun e w' => Gvn e ∧ Later w w' := by
 obtain ⟨l0, c0, c1⟩ := alloc2 w (.cells #[.pointer (some ⟨g, 0, none⟩), .int .u8 tos, .int .u16 id, .bool keep, .int .u8 ttl, .int .u8 pr, .int .u32 src, .int .u32 dst, so, sd, .int .i64 side] 149) (.cells #[.int .u8 p, .int .u32 x, .int .u32 d, .int .u16 a, .int .u16 b] 68)
 have C0 := hide c0
 have C1 := hide c1
 have CG := hide (later_keep l0 h.gc)
 have HMQ := hide (fun W (l : Later w W) => masq_none base s.gr s.vr s.ls x W (h.rl.later l) hok hx hn)
 clear c0 c1 hn h hok hx
 go_enter Tryz.func193, Tryz.ntmps193
 go_upto_region 1 with fail
 generalize (w.alloc (.cells #[.pointer (some ⟨g, 0, none⟩), .int .u8 tos, .int .u16 id, .bool keep, .int .u8 ttl, .int .u8 pr, .int .u32 src, .int .u32 dst, so, sd, .int .i64 side] 149)).alloc (.cells #[.int .u8 p, .int .u32 x, .int .u32 d, .int .u16 a, .int .u16 b] 68) = w1 at *
 generalize w.heap.size = gx at C0 C1 ⊢
 have LW0 : Later w w1 := l0
 go_cut [5, 6] (fun v c wx => (∃ gn, v = .pointer (some ⟨gn, 0, none⟩)) ∧ c = .bool false ∧ Hid (Later w1 wx))
 case first =>
  refine wp_calmG ?_
  refine anyU_begin (R1 := Later) (R2 := fun _ _ => True) (D := [12]) 14 rfl (by kernel_rfl) ?_
  have ld : Later w1 w1.drew := Later.drew w1
  generalize w1.drew = Wd at *
  have LWd : Later w Wd := LW0.trans ld
  have q0 : ∀ v1, Later Wd v1 → ∀ j, v1.cell? ⟨gx, j, none⟩ = #[.pointer (some ⟨g, 0, none⟩), .int .u8 tos, .int .u16 id, .bool keep, .int .u8 ttl, .int .u8 pr, .int .u32 src, .int .u32 dst, so, sd, .int .i64 side][j]? := fun v1 hv => block_cell (later_keep (ld.trans hv) C0.out)
  have q1 : ∀ v1, Later Wd v1 → ∀ j, v1.cell? ⟨gx + 1, j, none⟩ = #[.int .u8 p, .int .u32 x, .int .u32 d, .int .u16 a, .int .u16 b][j]? := fun v1 hv => block_cell (later_keep (ld.trans hv) C1.out)
  have q2 : ∀ v1, Later Wd v1 → ∀ j, v1.cell? ⟨g, j, none⟩ = (gtc s).toArray[j]? := fun v1 hv => block_cell (later_keep (ld.trans hv) CG.out)
  unfold gtc at q2
  refine uV Later.pre 0 [1, 2, 3, 4, 7, 8, 9, 10, 12, 13] rfl (by rfl) (by rfl) (by rfl) ⟨_, fun v h => by (go_simp; rfl), ?_⟩; simp only [Act.put, sA, sB, sC]
  refine uV Later.pre 1 [2, 3, 4, 7, 8, 9, 10, 12, 13] rfl (by rfl) (by rfl) (by rfl) ⟨_, fun v h => by (go_simp; rfl), ?_⟩; simp only [Act.put, sA, sB, sC]
  refine uV Later.pre 2 [3, 4, 7, 8, 9, 10, 12, 13] rfl (by rfl) (by rfl) (by rfl) ⟨_, fun v h => by (go_simp; rfl), ?_⟩; simp only [Act.put, sA, sB, sC]
  refine uV Later.pre 3 [4, 7, 8, 9, 10, 12, 13] rfl (by rfl) (by rfl) (by rfl) ⟨_, fun v h => by (go_simp; rfl), ?_⟩; simp only [Act.put, sA, sB, sC]
  refine uV Later.pre 4 [7, 8, 9, 10, 12, 13] rfl (by rfl) (by rfl) (by rfl) ⟨_, fun v h => by (go_simp; rfl), ?_⟩; simp only [Act.put, sA, sB, sC]
  refine uV Later.pre 5 [6, 7, 8, 9, 10, 12, 13] rfl (by rfl) (by rfl) (by rfl) ⟨_, fun v h => by (go_simp; rfl), ?_⟩; simp only [Act.put, sA, sB, sC]
  refine uV Later.pre 6 [7, 8, 9, 10, 12, 13] rfl (by rfl) (by rfl) (by rfl) ⟨_, fun v h => by (go_simp; rfl), ?_⟩; simp only [Act.put, sA, sB, sC]
  clear q0 q1 q2
  refine anyU_two 7 11 rfl rfl (by kernel_rfl) (by rfl) (by rfl) ?ca ?al
  case ca =>
   refine wp_enter 228 #[.pointer (some ⟨s.gr, 0, none⟩), .int .u32 x] (by go_simp) ?_
   refine (HMQ.out Wd LWd).mono ?_
   rintro e W1 ⟨rfl, l1⟩
   refine ⟨Rj_out (by rfl) l1, ?_⟩
   simp only [Act.put, sA, sB, sC]
   refine uV Later.pre 8 [9, 10, 12, 13] rfl (by rfl) (by rfl) (by rfl) ⟨_, fun v h => by (go_simp; rfl), ?_⟩; simp only [Act.put, sA, sB, sC]
   refine uV Later.pre 9 [12, 13] rfl (by rfl) (by rfl) (by rfl) ⟨_, fun v h => by (go_simp; rfl), ?_⟩; simp only [Act.put, sA, sB, sC]
   have HSZ := (ld.trans l1).size
   refine anyU_two 10 11 rfl rfl (by kernel_rfl) (by rfl) (by rfl) ?xt1011 ?yt1011
   case xt1011 =>
    refine wp_value (w' := W1) (.bool false) (by go_simp) ?_
    refine ⟨Rj_out (by rfl) (Later.refl _), ?_⟩
    simp only [Act.put, sA, sB, sC]
    refine anyU_one 11 rfl (by kernel_rfl) (by rfl) ?_
    have la := later_allocG W1 (.cells #[.int .i64 0, .int .u8 0, .int .u32 0, .int .i64 0, .int .u32 0, .int .u16 0, .int .u32 0, .int .u16 0] 35)
    have HA0 := heap_alloc_new W1 (.cells #[.int .i64 0, .int .u8 0, .int .u32 0, .int .i64 0, .int .u32 0, .int .u16 0, .int .u32 0, .int .u16 0] 35)
    unfold Oper.wp
    go_simp
    refine ⟨Rj_out (by rfl) la, ?_⟩
    change wpAnyU _ _ _ _ _ _ _ _ _ _ (W1.alloc (.cells #[.int .i64 0, .int .u8 0, .int .u32 0, .int .i64 0, .int .u32 0, .int .u16 0, .int .u32 0, .int .u16 0] 35))
    have hgn : w1.heap.size ≤ W1.heap.size := HSZ
    generalize W1.alloc (.cells #[.int .i64 0, .int .u8 0, .int .u32 0, .int .i64 0, .int .u32 0, .int .u16 0, .int .u32 0, .int .u16 0] 35) = W5 at *
    generalize W1.heap.size = gn at *
    have HA := HA0
    have LL := ld.trans (l1.trans la)
    refine anyU_one 12 rfl (by kernel_rfl) (by rfl) ?_
    have kA := block_cell HA
    have fA := block_frozen HA
    unfold Oper.wp
    go_simp
    refine ⟨Rj_in (by rfl) trivial, ?_⟩
    clear kA fA
    generalize hV : World.setCell _ ⟨gn, 7, none⟩ _ = V8
    have hV9 : V8 = putRow W5 gn 0 [.int .i64 0, .int .u8 0, .int .u32 0, .int .i64 0, .int .u32 0, .int .u16 0, .int .u32 0, .int .u16 0] := hV.symm
    have hb8 : But (fun b => b = gn) W5 V8 := by rw [hV9]; exact putRow_but (E := fun b => b = gn) (n := gn) rfl _ _ _ _ (But.refl _ _)
    have p8 := putRow_all [.int .i64 0, .int .u8 0, .int .u32 0, .int .i64 0, .int .u32 0, .int .u16 0, .int .u32 0, .int .u16 0] HA rfl
    rw [← hV9] at p8
    have PP := hide p8
    clear hV hV9 p8
    have BB := hide (Below.trans LL (hb8.below LL.size (fun k h e => by omega)))
    refine anyU_one 13 rfl (by kernel_rfl) (by rfl) ?_
    refine wp_value (w' := V8) (.bool false) (by go_simp) ?_
    refine ⟨Rj_out (by rfl) (Later.refl _), ?_⟩
    simp only [Act.put, sA, sB, sC]
    refine anyU_done (by kernel_rfl) ?_
    refine ⟨rfl, ?_⟩
    go_wp2_with fail
    go_meet
    case rel => exact ⟨⟨gn, rfl⟩, rfl, BB⟩
   case yt1011 =>
    have la := later_allocG W1 (.cells #[.int .i64 0, .int .u8 0, .int .u32 0, .int .i64 0, .int .u32 0, .int .u16 0, .int .u32 0, .int .u16 0] 35)
    have HA0 := heap_alloc_new W1 (.cells #[.int .i64 0, .int .u8 0, .int .u32 0, .int .i64 0, .int .u32 0, .int .u16 0, .int .u32 0, .int .u16 0] 35)
    unfold Oper.wp
    go_simp
    refine ⟨Rj_out (by rfl) la, ?_⟩
    change wpAnyU _ _ _ _ _ _ _ _ _ _ (W1.alloc (.cells #[.int .i64 0, .int .u8 0, .int .u32 0, .int .i64 0, .int .u32 0, .int .u16 0, .int .u32 0, .int .u16 0] 35))
    have hgn : w1.heap.size ≤ W1.heap.size := HSZ
    generalize W1.alloc (.cells #[.int .i64 0, .int .u8 0, .int .u32 0, .int .i64 0, .int .u32 0, .int .u16 0, .int .u32 0, .int .u16 0] 35) = W5 at *
    generalize W1.heap.size = gn at *
    have HA := HA0
    have LL := ld.trans (l1.trans la)
    refine anyU_two 10 12 rfl rfl (by kernel_rfl) (by rfl) (by rfl) ?xt1012 ?yt1012
    case xt1012 =>
     refine wp_value (w' := W5) (.bool false) (by go_simp) ?_
     refine ⟨Rj_out (by rfl) (Later.refl _), ?_⟩
     simp only [Act.put, sA, sB, sC]
     refine anyU_one 12 rfl (by kernel_rfl) (by rfl) ?_
     have kA := block_cell HA
     have fA := block_frozen HA
     unfold Oper.wp
     go_simp
     refine ⟨Rj_in (by rfl) trivial, ?_⟩
     clear kA fA
     generalize hV : World.setCell _ ⟨gn, 7, none⟩ _ = V8
     have hV9 : V8 = putRow W5 gn 0 [.int .i64 0, .int .u8 0, .int .u32 0, .int .i64 0, .int .u32 0, .int .u16 0, .int .u32 0, .int .u16 0] := hV.symm
     have hb8 : But (fun b => b = gn) W5 V8 := by rw [hV9]; exact putRow_but (E := fun b => b = gn) (n := gn) rfl _ _ _ _ (But.refl _ _)
     have p8 := putRow_all [.int .i64 0, .int .u8 0, .int .u32 0, .int .i64 0, .int .u32 0, .int .u16 0, .int .u32 0, .int .u16 0] HA rfl
     rw [← hV9] at p8
     have PP := hide p8
     clear hV hV9 p8
     have BB := hide (Below.trans LL (hb8.below LL.size (fun k h e => by omega)))
     refine anyU_one 13 rfl (by kernel_rfl) (by rfl) ?_
     refine wp_value (w' := V8) (.bool false) (by go_simp) ?_
     refine ⟨Rj_out (by rfl) (Later.refl _), ?_⟩
     simp only [Act.put, sA, sB, sC]
     refine anyU_done (by kernel_rfl) ?_
     refine ⟨rfl, ?_⟩
     go_wp2_with fail
     go_meet
     case rel => exact ⟨⟨gn, rfl⟩, rfl, BB⟩
    case yt1012 =>
     have kA := block_cell HA
     have fA := block_frozen HA
     unfold Oper.wp
     go_simp
     refine ⟨Rj_in (by rfl) trivial, ?_⟩
     clear kA fA
     generalize hV : World.setCell _ ⟨gn, 7, none⟩ _ = V8
     have hV9 : V8 = putRow W5 gn 0 [.int .i64 0, .int .u8 0, .int .u32 0, .int .i64 0, .int .u32 0, .int .u16 0, .int .u32 0, .int .u16 0] := hV.symm
     have hb8 : But (fun b => b = gn) W5 V8 := by rw [hV9]; exact putRow_but (E := fun b => b = gn) (n := gn) rfl _ _ _ _ (But.refl _ _)
     have p8 := putRow_all [.int .i64 0, .int .u8 0, .int .u32 0, .int .i64 0, .int .u32 0, .int .u16 0, .int .u32 0, .int .u16 0] HA rfl
     rw [← hV9] at p8
     have PP := hide p8
     clear hV hV9 p8
     have BB := hide (Below.trans LL (hb8.below LL.size (fun k h e => by omega)))
     refine anyU_one 10 rfl (by kernel_rfl) (by rfl) ?_
     refine wp_value (w' := V8) (.bool false) (by go_simp) ?_
     refine ⟨Rj_out (by rfl) (Later.refl _), ?_⟩
     simp only [Act.put, sA, sB, sC]
     refine anyU_one 13 rfl (by kernel_rfl) (by rfl) ?_
     refine wp_value (w' := V8) (.bool false) (by go_simp) ?_
     refine ⟨Rj_out (by rfl) (Later.refl _), ?_⟩
     simp only [Act.put, sA, sB, sC]
     refine anyU_done (by kernel_rfl) ?_
     refine ⟨rfl, ?_⟩
     go_wp2_with fail
     go_meet
     case rel => exact ⟨⟨gn, rfl⟩, rfl, BB⟩
  case al =>
   have HSZ := ld.size
   have la := later_allocG Wd (.cells #[.int .i64 0, .int .u8 0, .int .u32 0, .int .i64 0, .int .u32 0, .int .u16 0, .int .u32 0, .int .u16 0] 35)
   have HA0 := heap_alloc_new Wd (.cells #[.int .i64 0, .int .u8 0, .int .u32 0, .int .i64 0, .int .u32 0, .int .u16 0, .int .u32 0, .int .u16 0] 35)
   unfold Oper.wp
   go_simp
   refine ⟨Rj_out (by rfl) la, ?_⟩
   change wpAnyU _ _ _ _ _ _ _ _ _ _ (Wd.alloc (.cells #[.int .i64 0, .int .u8 0, .int .u32 0, .int .i64 0, .int .u32 0, .int .u16 0, .int .u32 0, .int .u16 0] 35))
   have hgn : w1.heap.size ≤ Wd.heap.size := HSZ
   generalize Wd.alloc (.cells #[.int .i64 0, .int .u8 0, .int .u32 0, .int .i64 0, .int .u32 0, .int .u16 0, .int .u32 0, .int .u16 0] 35) = W3 at *
   generalize Wd.heap.size = gn at *
   refine anyU_one 7 rfl (by kernel_rfl) (by rfl) ?_
   refine wp_enter 228 #[.pointer (some ⟨s.gr, 0, none⟩), .int .u32 x] (by go_simp) ?_
   refine (HMQ.out W3 (LWd.trans la)).mono ?_
   rintro e W5 ⟨rfl, l1⟩
   refine ⟨Rj_out (by rfl) l1, ?_⟩
   simp only [Act.put, sA, sB, sC]
   refine uV Later.pre 8 [9, 10, 12, 13] rfl (by rfl) (by rfl) (by rfl) ⟨_, fun v h => by (go_simp; rfl), ?_⟩; simp only [Act.put, sA, sB, sC]
   refine uV Later.pre 9 [12, 13] rfl (by rfl) (by rfl) (by rfl) ⟨_, fun v h => by (go_simp; rfl), ?_⟩; simp only [Act.put, sA, sB, sC]
   have HA := later_keep l1 HA0
   have LL := ld.trans (la.trans l1)
   refine anyU_two 10 12 rfl rfl (by kernel_rfl) (by rfl) (by rfl) ?xt1012 ?yt1012
   case xt1012 =>
    refine wp_value (w' := W5) (.bool false) (by go_simp) ?_
    refine ⟨Rj_out (by rfl) (Later.refl _), ?_⟩
    simp only [Act.put, sA, sB, sC]
    refine anyU_one 12 rfl (by kernel_rfl) (by rfl) ?_
    have kA := block_cell HA
    have fA := block_frozen HA
    unfold Oper.wp
    go_simp
    refine ⟨Rj_in (by rfl) trivial, ?_⟩
    clear kA fA
    generalize hV : World.setCell _ ⟨gn, 7, none⟩ _ = V8
    have hV9 : V8 = putRow W5 gn 0 [.int .i64 0, .int .u8 0, .int .u32 0, .int .i64 0, .int .u32 0, .int .u16 0, .int .u32 0, .int .u16 0] := hV.symm
    have hb8 : But (fun b => b = gn) W5 V8 := by rw [hV9]; exact putRow_but (E := fun b => b = gn) (n := gn) rfl _ _ _ _ (But.refl _ _)
    have p8 := putRow_all [.int .i64 0, .int .u8 0, .int .u32 0, .int .i64 0, .int .u32 0, .int .u16 0, .int .u32 0, .int .u16 0] HA rfl
    rw [← hV9] at p8
    have PP := hide p8
    clear hV hV9 p8
    have BB := hide (Below.trans LL (hb8.below LL.size (fun k h e => by omega)))
    refine anyU_one 13 rfl (by kernel_rfl) (by rfl) ?_
    refine wp_value (w' := V8) (.bool false) (by go_simp) ?_
    refine ⟨Rj_out (by rfl) (Later.refl _), ?_⟩
    simp only [Act.put, sA, sB, sC]
    refine anyU_done (by kernel_rfl) ?_
    refine ⟨rfl, ?_⟩
    go_wp2_with fail
    go_meet
    case rel => exact ⟨⟨gn, rfl⟩, rfl, BB⟩
   case yt1012 =>
    have kA := block_cell HA
    have fA := block_frozen HA
    unfold Oper.wp
    go_simp
    refine ⟨Rj_in (by rfl) trivial, ?_⟩
    clear kA fA
    generalize hV : World.setCell _ ⟨gn, 7, none⟩ _ = V8
    have hV9 : V8 = putRow W5 gn 0 [.int .i64 0, .int .u8 0, .int .u32 0, .int .i64 0, .int .u32 0, .int .u16 0, .int .u32 0, .int .u16 0] := hV.symm
    have hb8 : But (fun b => b = gn) W5 V8 := by rw [hV9]; exact putRow_but (E := fun b => b = gn) (n := gn) rfl _ _ _ _ (But.refl _ _)
    have p8 := putRow_all [.int .i64 0, .int .u8 0, .int .u32 0, .int .i64 0, .int .u32 0, .int .u16 0, .int .u32 0, .int .u16 0] HA rfl
    rw [← hV9] at p8
    have PP := hide p8
    clear hV hV9 p8
    have BB := hide (Below.trans LL (hb8.below LL.size (fun k h e => by omega)))
    refine anyU_one 10 rfl (by kernel_rfl) (by rfl) ?_
    refine wp_value (w' := V8) (.bool false) (by go_simp) ?_
    refine ⟨Rj_out (by rfl) (Later.refl _), ?_⟩
    simp only [Act.put, sA, sB, sC]
    refine anyU_one 13 rfl (by kernel_rfl) (by rfl) ?_
    refine wp_value (w' := V8) (.bool false) (by go_simp) ?_
    refine ⟨Rj_out (by rfl) (Later.refl _), ?_⟩
    simp only [Act.put, sA, sB, sC]
    refine anyU_done (by kernel_rfl) ?_
    refine ⟨rfl, ?_⟩
    go_wp2_with fail
    go_meet
    case rel => exact ⟨⟨gn, rfl⟩, rfl, BB⟩
 case rest =>
  obtain ⟨⟨gm, rfl⟩, rfl, HL3⟩ := hcut
  have L3 := HL3.out
  go_wp2_with fail
  refine (grefuse_yes 2 _).mono ?_
  rintro e w4 ⟨rfl, rfl⟩
  exact ⟨rfl, ⟨2, by decide, rfl⟩, LW0.trans L3⟩
def Shut (side : Int) (ls : List Ru) : Prop := (side = 1 ∧ ∀ y ∈ ls, y.kind ≠ 2) ∨ (side = 0 ∧ okL ls ∧ ∀ y ∈ ls, y.kind ≠ 1)
def PkI (W : World) (sd : Value) (zd : List Int) (src dst : Int) : Prop := Mt.By zd ∧ Rd W.heap.size W sd zd ∧ zd.length ≤ 70000 ∧ (0 ≤ src ∧ src ≤ 4294967295) ∧ (0 ≤ dst ∧ dst ≤ 4294967295)
theorem PkI.later {A B : World} {sd : Value} {zd : List Int} {src dst : Int} (h : PkI A sd zd src dst) (l : Later A B) : PkI B sd zd src dst := ⟨h.1, h.2.1.later l, h.2.2⟩
theorem wat4D {zs : List Int} (hB : Mt.By zs) (k : Nat) : 0 ≤ wat4 zs k ∧ wat4 zs k ≤ 4294967295 := by
 have b1 := wat_bd hB k
 have b2 := wat_bd hB (k + 2)
 unfold wat4
 omega
theorem qiaD {pr : Int} {d : List Int} (hB : Mt.By d) : 0 ≤ qia pr d ∧ qia pr d ≤ 65535 := by
 have h0 := wat_bd hB 0
 have h4 := wat_bd hB 4
 unfold qia
 split
 ·exact h0
 split
 ·exact h0
 split
 ·exact h4
 ·omega
theorem qibD {pr : Int} {d : List Int} (hB : Mt.By d) : 0 ≤ qib pr d ∧ qib pr d ≤ 65535 := by
 have h2 := wat_bd hB 2
 have h4 := wat_bd hB 4
 have h6 := wat_bd hB 6
 unfold qib
 split
 ·exact h2
 split
 ·exact h2
 split
 ·exact h4
 ·exact h6
theorem ofaD {zs : List Int} (pr : Int) (h : Mt.By zs) : 0 ≤ ofa pr zs ∧ ofa pr zs ≤ 65535 := by
 unfold ofa
 split
 ·exact wat_bd h _
 split
 ·exact wat_bd h _
 split
 ·exact wat_bd h _
 ·omega
theorem ofbD {zs : List Int} (pr : Int) (h : Mt.By zs) : 0 ≤ ofb pr zs ∧ ofb pr zs ≤ 65535 := by
 unfold ofb
 split
 ·exact wat_bd h _
 split
 ·exact wat_bd h _
 split
 ·exact wat_bd h _
 ·unfold getAt2
  split
  ·exact wat_bd h _
  ·omega
set_option maxRecDepth 100000 in
set_option maxHeartbeats 16000000 in
theorem begin_none (base g : Nat) (s : Gs) (tos id ttl pr src dst : Int) (keep : Bool) (so sd : Value) (side : Int) (zd : List Int) (p x d a b : Int) (w : World) (h : GI base w g s) (hS : Shut side s.ls) (hP : PkI w sd zd src dst) (hx : 0 ≤ x ∧ x ≤ 4294967295) :
  Calls Tryz.prog 153 #[.agg #[.pointer (some ⟨g, 0, none⟩), .int .u8 tos, .int .u16 id, .bool keep, .int .u8 ttl, .int .u8 pr, .int .u32 src, .int .u32 dst, so, sd, .int .i64 side], .agg #[.int .u8 p, .int .u32 x, .int .u32 d, .int .u16 a, .int .u16 b]] w fun e w' => Gvn e ∧ Later w w' := by
 obtain ⟨l0, c0, c1⟩ := alloc2 w (.cells #[.pointer (some ⟨g, 0, none⟩), .int .u8 tos, .int .u16 id, .bool keep, .int .u8 ttl, .int .u8 pr, .int .u32 src, .int .u32 dst, so, sd, .int .i64 side] 149) (.cells #[.int .u8 p, .int .u32 x, .int .u32 d, .int .u16 a, .int .u16 b] 68)
 have C0 := hide c0
 have C1 := hide c1
 clear c0 c1
 go_enter Tryz.func153, Tryz.ntmps153
 go_upto_region 1 with fail
 generalize (w.alloc (.cells #[.pointer (some ⟨g, 0, none⟩), .int .u8 tos, .int .u16 id, .bool keep, .int .u8 ttl, .int .u8 pr, .int .u32 src, .int .u32 dst, so, sd, .int .i64 side] 149)).alloc (.cells #[.int .u8 p, .int .u32 x, .int .u32 d, .int .u16 a, .int .u16 b] 68) = w1 at *
 generalize w.heap.size = gx at C0 C1 ⊢
 by_cases p6 : p = 6
 ·subst p6
  have k0 := block_cell C0.out
  have k1 := block_cell C1.out
  go_wp2_with fail
  refine (flags_some g tos id ttl pr src dst keep so sd side zd w1 hP.1 (hP.2.1.later l0) hP.2.2.1 hP.2.2.2.1 hP.2.2.2.2).mono ?_
  rintro e w2 ⟨⟨f, rfl⟩, l2⟩
  clear k0 k1
  have k0 := block_cell (later_keep l2 C0.out)
  have k1 := block_cell (later_keep l2 C1.out)
  go_wp2_with fail
  refine (begins_any f _).mono ?_
  rintro e w3 ⟨rfl, hw3⟩
  subst hw3
  generalize bgn f = bb
  cases bb with
  | false =>
   go_wp2_with fail
   refine (grefuse_yes 5 _).mono ?_
   rintro e w4 ⟨rfl, rfl⟩
   exact ⟨rfl, ⟨5, by decide, rfl⟩, l0.trans l2⟩
  | true =>
   go_wp2_with fail
   refine (grefuse_no 5 _).mono ?_
   rintro e w4 ⟨rfl, hw4⟩
   subst hw4
   go_wp2_with fail
   refine (grefuse_no 5 _).mono ?_
   rintro e w4 ⟨rfl, hw4⟩
   subst hw4
   go_wp2_with fail
   refine (grefuse_no 3 _).mono ?_
   rintro e w4 ⟨rfl, hw4⟩
   subst hw4
   clear k0 k1
   have k0 := block_cell (later_keep l2 C0.out)
   have k1 := block_cell (later_keep l2 C1.out)
   rcases hS with ⟨rfl, hn⟩ | ⟨rfl, hok, hn⟩
   ·go_wp2_with fail
    refine (beginOutside_none base g s tos id ttl pr src dst keep so sd 1 6 x d a b w3 (h.later (l0.trans l2)) hn).mono ?_
    rintro e w9 ⟨⟨c, hc, rfl⟩, l9⟩
    exact ⟨rfl, ⟨c, hc, rfl⟩, l0.trans (Later.trans l2 l9)⟩
   ·go_wp2_with fail
    refine (beginInside_none base g s tos id ttl pr src dst keep so sd 0 6 x d a b w3 (h.later (l0.trans l2)) hok hx hn).mono ?_
    rintro e w9 ⟨⟨c, hc, rfl⟩, l9⟩
    exact ⟨rfl, ⟨c, hc, rfl⟩, l0.trans (Later.trans l2 l9)⟩
 by_cases p1 : p = 1
 ·subst p1
  have k0 := block_cell C0.out
  have k1 := block_cell C1.out
  go_wp2_with fail
  refine (grefuse_no 5 _).mono ?_
  rintro e w4 ⟨rfl, hw4⟩
  subst hw4
  go_wp2_with fail
  refine (gasks_some g tos id ttl pr src dst keep so sd side zd _ hP.1 (hP.2.1.later l0) hP.2.2.1).mono ?_
  rintro e w2 ⟨⟨f, rfl⟩, l2⟩
  clear k0 k1
  have k0 := block_cell (later_keep l2 C0.out)
  have k1 := block_cell (later_keep l2 C1.out)
  cases f with
  | false =>
   go_wp2_with fail
   refine (grefuse_yes 5 _).mono ?_
   rintro e w4 ⟨rfl, rfl⟩
   exact ⟨rfl, ⟨5, by decide, rfl⟩, l0.trans l2⟩
  | true =>
   go_wp2_with fail
   refine (grefuse_no 5 _).mono ?_
   rintro e w4 ⟨rfl, hw4⟩
   subst hw4
   go_wp2_with fail
   refine (grefuse_no 3 _).mono ?_
   rintro e w4 ⟨rfl, hw4⟩
   subst hw4
   clear k0 k1
   have k0 := block_cell (later_keep l2 C0.out)
   have k1 := block_cell (later_keep l2 C1.out)
   rcases hS with ⟨rfl, hn⟩ | ⟨rfl, hok, hn⟩
   ·go_wp2_with fail
    refine (beginOutside_none base g s tos id ttl pr src dst keep so sd 1 1 x d a b w2 (h.later (l0.trans l2)) hn).mono ?_
    rintro e w9 ⟨⟨c, hc, rfl⟩, l9⟩
    exact ⟨rfl, ⟨c, hc, rfl⟩, l0.trans (Later.trans l2 l9)⟩
   ·go_wp2_with fail
    refine (beginInside_none base g s tos id ttl pr src dst keep so sd 0 1 x d a b w2 (h.later (l0.trans l2)) hok hx hn).mono ?_
    rintro e w9 ⟨⟨c, hc, rfl⟩, l9⟩
    exact ⟨rfl, ⟨c, hc, rfl⟩, l0.trans (Later.trans l2 l9)⟩
 have t1 : (p == 6) = false := by rw [beq_eq_false_iff_ne]; exact p6
 have t2 : (p == 1) = false := by rw [beq_eq_false_iff_ne]; exact p1
 have k0 := block_cell C0.out
 have k1 := block_cell C1.out
 go_wp2_with fail
 refine (grefuse_no 5 _).mono ?_
 rintro e w4 ⟨rfl, hw4⟩
 subst hw4
 go_wp2_with fail
 refine (grefuse_no 5 _).mono ?_
 rintro e w4 ⟨rfl, hw4⟩
 subst hw4
 by_cases p47 : p = 47
 ·have t3 : (p == 47) = true := by simp [p47]
  go_wp2_with fail
  refine (grefuse_yes 3 _).mono ?_
  rintro e w4 ⟨rfl, rfl⟩
  exact ⟨rfl, ⟨3, by decide, rfl⟩, l0⟩
 ·have t3 : (p == 47) = false := by rw [beq_eq_false_iff_ne]; exact p47
  go_wp2_with fail
  refine (grefuse_no 3 _).mono ?_
  rintro e w4 ⟨rfl, hw4⟩
  subst hw4
  clear k0 k1
  have lr := Later.refl w1
  have k0 := block_cell (later_keep lr C0.out)
  have k1 := block_cell (later_keep lr C1.out)
  rcases hS with ⟨rfl, hn⟩ | ⟨rfl, hok, hn⟩
  ·go_wp2_with fail
   refine (beginOutside_none base g s tos id ttl pr src dst keep so sd 1 p x d a b w1 (h.later (l0.trans lr)) hn).mono ?_
   rintro e w9 ⟨⟨c, hc, rfl⟩, l9⟩
   exact ⟨rfl, ⟨c, hc, rfl⟩, l0.trans (Later.trans lr l9)⟩
  ·go_wp2_with fail
   refine (beginInside_none base g s tos id ttl pr src dst keep so sd 0 p x d a b w1 (h.later (l0.trans lr)) hok hx hn).mono ?_
   rintro e w9 ⟨⟨c, hc, rfl⟩, l9⟩
   exact ⟨rfl, ⟨c, hc, rfl⟩, l0.trans (Later.trans lr l9)⟩
set_option maxRecDepth 100000 in
set_option maxHeartbeats 8000000 in
theorem owner_none (base g : Nat) (s : Gs) (tos id ttl pr src dst : Int) (keep : Bool) (so sd : Value) (side : Int) (zd : List Int) (p x d a b : Int) (w : World) (h : GI base w g s) (hS : Shut side s.ls) (hP : PkI w sd zd src dst) (hx : 0 ≤ x ∧ x ≤ 4294967295) (hd : 0 ≤ d ∧ d ≤ 4294967295) (ha : 0 ≤ a ∧ a ≤ 65535) (hb : 0 ≤ b ∧ b ≤ 65535) :
  Calls Tryz.prog 108 #[.agg #[.pointer (some ⟨g, 0, none⟩), .int .u8 tos, .int .u16 id, .bool keep, .int .u8 ttl, .int .u8 pr, .int .u32 src, .int .u32 dst, so, sd, .int .i64 side], .agg #[.int .u8 p, .int .u32 x, .int .u32 d, .int .u16 a, .int .u16 b]] w fun e w' => Gvn e ∧ Later w w' := by
 obtain ⟨l0, c0, c1⟩ := alloc2 w (.cells #[.pointer (some ⟨g, 0, none⟩), .int .u8 tos, .int .u16 id, .bool keep, .int .u8 ttl, .int .u8 pr, .int .u32 src, .int .u32 dst, so, sd, .int .i64 side] 149) (.cells #[.int .u8 p, .int .u32 x, .int .u32 d, .int .u16 a, .int .u16 b] 68)
 have C0 := hide c0
 have C1 := hide c1
 clear c0 c1
 go_enter Tryz.func108, Tryz.ntmps108
 go_upto_region 1 with fail
 generalize (w.alloc (.cells #[.pointer (some ⟨g, 0, none⟩), .int .u8 tos, .int .u16 id, .bool keep, .int .u8 ttl, .int .u8 pr, .int .u32 src, .int .u32 dst, so, sd, .int .i64 side] 149)).alloc (.cells #[.int .u8 p, .int .u32 x, .int .u32 d, .int .u16 a, .int .u16 b] 68) = w1 at *
 generalize w.heap.size = gx at C0 C1 ⊢
 have k0 := block_cell C0.out
 have k1 := block_cell C1.out
 go_wp2_with fail
 refine (lookUp_none base g s p x d a b w1 (h.later l0) hx hd ha hb).mono ?_
 rintro e w2 ⟨rfl, l2⟩
 clear k0 k1
 have k0 := block_cell (later_keep l2 C0.out)
 have k1 := block_cell (later_keep l2 C1.out)
 go_wp2_with fail
 refine (begin_none base g s tos id ttl pr src dst keep so sd side zd p x d a b w2 (h.later (l0.trans l2)) hS (hP.later (l0.trans l2)) hx).mono ?_
 rintro e w9 ⟨⟨c, hc, rfl⟩, l9⟩
 exact ⟨rfl, ⟨c, hc, rfl⟩, l0.trans (Later.trans l2 l9)⟩
set_option maxRecDepth 100000 in
set_option maxHeartbeats 8000000 in
theorem requoted_none (base g : Nat) (s : Gs) (tos id ttl pr src dst : Int) (keep : Bool) (so sd : Value) (side : Int) (zd : List Int) (w : World) (h : GI base w g s) (hT : Tb w) (hP : PkI w sd zd src dst) :
  Calls Tryz.prog 107 #[.agg #[.pointer (some ⟨g, 0, none⟩), .int .u8 tos, .int .u16 id, .bool keep, .int .u8 ttl, .int .u8 pr, .int .u32 src, .int .u32 dst, so, sd, .int .i64 side]] w fun e w' => Gvn e ∧ Later w w' := by
 obtain ⟨l0, c0, c1⟩ := alloc2 w (.cells #[.pointer (some ⟨g, 0, none⟩), .int .u8 tos, .int .u16 id, .bool keep, .int .u8 ttl, .int .u8 pr, .int .u32 src, .int .u32 dst, so, sd, .int .i64 side] 149) (.cells #[.int .u8 0, .int .u16 0, .bool false, .int .u8 0, .int .u8 0, .int .u32 0, .int .u32 0, .slice none 0 0, .slice none 0 0] 56)
 have C0 := hide c0
 clear c0 c1
 have HQ := hide (fun W (l : Later w W) => quoted_any tos id ttl pr src dst keep so sd zd W (hT.later l) hP.1 (hP.2.1.later l) (by have := hP.2.2.1; omega))
 have hB8 := hP.1.drop 8
 have b1 := wat4D hB8 12
 have b2 := wat4D hB8 16
 have hBq : Mt.By (qdt (zd.drop 8)) := (hB8.take _).drop _
 have b3 := qiaD (pr := qpr (zd.drop 8)) hBq
 have b4 := qibD (pr := qpr (zd.drop 8)) hBq
 unfold quv at HQ
 generalize que pr zd = e0 at *
 generalize qpr (zd.drop 8) = qp at *
 generalize wat4 (zd.drop 8) 12 = x at *
 generalize wat4 (zd.drop 8) 16 = d at *
 generalize qia qp (qdt (zd.drop 8)) = a at *
 generalize qib qp (qdt (zd.drop 8)) = b at *
 clear hB8 hBq
 go_enter Tryz.func107, Tryz.ntmps107
 go_upto_region 1 with fail
 generalize (w.alloc (.cells #[.pointer (some ⟨g, 0, none⟩), .int .u8 tos, .int .u16 id, .bool keep, .int .u8 ttl, .int .u8 pr, .int .u32 src, .int .u32 dst, so, sd, .int .i64 side] 149)).alloc _ = w1 at *
 generalize w.heap.size = gx at C0 ⊢
 have k0 := block_cell C0.out
 go_wp2_with fail
 refine (HQ.out w1 l0).mono ?_
 rintro e w2 ⟨l2, rfl⟩
 clear k0 HQ
 by_cases h0 : e0 = 0
 case neg =>
  have t1 : (e0 != 0) = true := by simp [h0]
  have hv : otv e0 qp x d a b = .agg #[.int .u8 0, .int .u32 0, .int .u32 0, .int .u16 0, .int .u16 0] := by unfold otv; rw [if_neg h0]
  rw [hv]
  clear hv h0
  go_upto_region 2 with fail
  have la := later_allocG w2 (.cells #[.int .u8 0, .int .u32 0, .int .u32 0, .int .u16 0, .int .u16 0] 68)
  generalize w2.alloc _ = w3 at *
  go_wp2_with fail
  refine (grefuse_yes 6 _).mono ?_
  rintro e w4 ⟨rfl, rfl⟩
  exact ⟨rfl, ⟨6, by decide, rfl⟩, l0.trans (Later.trans l2 la)⟩
 subst h0
 have hv : otv 0 qp x d a b = .agg #[.int .u8 qp, .int .u32 x, .int .u32 d, .int .u16 a, .int .u16 b] := by unfold otv; rw [if_pos rfl]
 rw [hv]
 clear hv
 go_upto_region 2 with fail
 have la := later_allocG w2 (.cells #[.int .u8 qp, .int .u32 x, .int .u32 d, .int .u16 a, .int .u16 b] 68)
 have C3 := hide (heap_alloc_new w2 (.cells #[.int .u8 qp, .int .u32 x, .int .u32 d, .int .u16 a, .int .u16 b] 68))
 have D0 := hide (later_keep (Later.trans l2 la) C0.out)
 have L3 : Later w (w2.alloc (.cells #[.int .u8 qp, .int .u32 x, .int .u32 d, .int .u16 a, .int .u16 b] 68)) := l0.trans (Later.trans l2 la)
 change Code.wp _ _ _ _ (w2.alloc (.cells #[.int .u8 qp, .int .u32 x, .int .u32 d, .int .u16 a, .int .u16 b] 68))
 generalize w2.alloc (.cells #[.int .u8 qp, .int .u32 x, .int .u32 d, .int .u16 a, .int .u16 b] 68) = w3 at *
 generalize w2.heap.size = g3 at *
 clear C0 l2 la
 have k3 := block_cell C3.out
 by_cases p47 : qp = 47
 ·have t3 : (qp == 47) = true := by simp [p47]
  go_wp2_with fail
  refine (grefuse_yes 6 _).mono ?_
  rintro e w4 ⟨rfl, rfl⟩
  exact ⟨rfl, ⟨6, by decide, rfl⟩, L3⟩
 have t3 : (qp == 47) = false := by rw [beq_eq_false_iff_ne]; exact p47
 go_wp2_with fail
 refine (grefuse_no 6 _).mono ?_
 rintro e w4 ⟨rfl, hw4⟩
 subst hw4
 clear k3 t3
 go_upto_region 3 with fail
 refine anyR_begin (R := Later) Later.pre Later.drew 12 rfl (by kernel_rfl) (fun V0 hV0 => ?_)
 have q0 : ∀ v, Later V0 v → ∀ j, v.cell? ⟨gx, j, none⟩ = #[.pointer (some ⟨g, 0, none⟩), .int .u8 tos, .int .u16 id, .bool keep, .int .u8 ttl, .int .u8 pr, .int .u32 src, .int .u32 dst, so, sd, .int .i64 side][j]? := fun v hv => block_cell (later_keep (hV0.trans hv) D0.out)
 have q1 : ∀ v, Later V0 v → ∀ j, v.cell? ⟨g3, j, none⟩ = #[.int .u8 qp, .int .u32 x, .int .u32 d, .int .u16 a, .int .u16 b][j]? := fun v hv => block_cell (later_keep (hV0.trans hv) C3.out)
 refine rV Later.pre 0 rfl rfl ⟨_, fun v h => by (go_simp; rfl), ?_⟩; simp only [Act.put, sA, sB, sC]
 refine rV Later.pre 1 rfl rfl ⟨_, fun v h => by (go_simp; rfl), ?_⟩; simp only [Act.put, sA, sB, sC]
 refine rV Later.pre 2 rfl rfl ⟨_, fun v h => by (go_simp; rfl), ?_⟩; simp only [Act.put, sA, sB, sC]
 clear q0 q1
 refine anyR_take Later.pre 3 (.agg #[.int .u8 qp, .int .u32 d, .int .u32 x, .int .u16 b, .int .u16 a]) rfl (by kernel_rfl) (by kernel_rfl) (by kernel_rfl) (fun _ _ _ h => h) rfl (fun u hu => goes_call 109 #[.agg #[.int .u8 qp, .int .u32 x, .int .u32 d, .int .u16 a, .int .u16 b]] (by go_simp) (reverse_any qp x d a b u)) ?_
 simp only [Act.put, sA, sB, sC]
 refine anyR_take Later.pre 4 (.tuple #[.pointer none, .bool false, .bool false]) rfl (by kernel_rfl) (by kernel_rfl) (by kernel_rfl) (fun _ _ _ h => h) rfl (fun u hu => goes_call 33 #[.pointer (some ⟨g, 0, none⟩), .agg #[.int .u8 qp, .int .u32 d, .int .u32 x, .int .u16 b, .int .u16 a]] (by go_simp) (lookUp_none base g s qp d x b a u (h.later (L3.trans (hV0.trans hu))) b2 b1 b4 b3)) ?_
 simp only [Act.put, sA, sB, sC]
 refine rV Later.pre 5 rfl rfl ⟨_, fun v h => by (go_simp; rfl), ?_⟩; simp only [Act.put, sA, sB, sC]
 refine rV Later.pre 6 rfl rfl ⟨_, fun v h => by (go_simp; rfl), ?_⟩; simp only [Act.put, sA, sB, sC]
 refine rV Later.pre 7 rfl rfl ⟨_, fun v h => by (go_simp; rfl), ?_⟩; simp only [Act.put, sA, sB, sC]
 refine rV Later.pre 8 rfl rfl ⟨_, fun v h => by (go_simp; rfl), ?_⟩; simp only [Act.put, sA, sB, sC]
 refine rV Later.pre 9 rfl rfl ⟨_, fun v h => by (go_simp; rfl), ?_⟩; simp only [Act.put, sA, sB, sC]
 refine rV Later.pre 10 rfl rfl ⟨_, fun v h => by (go_simp; rfl), ?_⟩; simp only [Act.put, sA, sB, sC]
 refine rV Later.pre 11 rfl rfl ⟨_, fun v h => by (go_simp; rfl), ?_⟩; simp only [Act.put, sA, sB, sC]
 refine anyR_done (by kernel_rfl) (fun V9 hV9 => ?_)
 go_wp2_with fail
 refine (grefuse_yes 3 _).mono ?_
 rintro e w4 ⟨rfl, rfl⟩
 exact ⟨rfl, ⟨3, by decide, rfl⟩, L3.trans (hV0.trans hV9)⟩
set_option maxRecDepth 100000 in
set_option maxHeartbeats 8000000 in
theorem changed_none (base g : Nat) (s : Gs) (tos id ttl pr src dst : Int) (keep : Bool) (so sd : Value) (side : Int) (zd : List Int) (w : World) (h : GI base w g s) (hT : Tb w) (hS : Shut side s.ls) (hP : PkI w sd zd src dst) :
  Calls Tryz.prog 57 #[.agg #[.pointer (some ⟨g, 0, none⟩), .int .u8 tos, .int .u16 id, .bool keep, .int .u8 ttl, .int .u8 pr, .int .u32 src, .int .u32 dst, so, sd, .int .i64 side]] w fun e w' => Gvn e ∧ Later w w' := by
 obtain ⟨l0, c0, c1⟩ := alloc2 w (.cells #[.pointer (some ⟨g, 0, none⟩), .int .u8 tos, .int .u16 id, .bool keep, .int .u8 ttl, .int .u8 pr, .int .u32 src, .int .u32 dst, so, sd, .int .i64 side] 149) (.cells #[.int .u8 0, .int .u16 0, .bool false, .int .u8 0, .int .u8 0, .int .u32 0, .int .u32 0, .slice none 0 0, .slice none 0 0] 56)
 have C0 := hide c0
 clear c0 c1
 have HQ := hide (fun W (l : Later w W) => of_any tos id ttl pr src dst keep so sd zd W (hT.later l) hP.1 (hP.2.1.later l) (by have := hP.2.2.1; omega) hP.2.2.2.1 hP.2.2.2.2)
 have b3 := ofaD pr hP.1
 have b4 := ofbD pr hP.1
 generalize ofe pr src dst zd = e0 at *
 generalize ofa pr zd = a at *
 generalize ofb pr zd = b at *
 go_enter Tryz.func57, Tryz.ntmps57
 go_upto_region 1 with fail
 generalize (w.alloc (.cells #[.pointer (some ⟨g, 0, none⟩), .int .u8 tos, .int .u16 id, .bool keep, .int .u8 ttl, .int .u8 pr, .int .u32 src, .int .u32 dst, so, sd, .int .i64 side] 149)).alloc _ = w1 at *
 generalize w.heap.size = gx at C0 ⊢
 have k0 := block_cell C0.out
 go_wp2_with fail
 refine (HQ.out w1 l0).mono ?_
 rintro e w2 ⟨l2, rfl⟩
 clear k0 HQ
 by_cases h0 : e0 = 0
 case neg =>
  have t1 : (e0 != 0) = true := by simp [h0]
  have hv : otv e0 pr src dst a b = .agg #[.int .u8 0, .int .u32 0, .int .u32 0, .int .u16 0, .int .u16 0] := by unfold otv; rw [if_neg h0]
  rw [hv]
  clear hv h0
  go_upto_region 2 with fail
  have la := later_allocG w2 (.cells #[.int .u8 0, .int .u32 0, .int .u32 0, .int .u16 0, .int .u16 0] 68)
  have D0 := hide (later_keep (Later.trans l2 la) C0.out)
  have L3 : Later w (w2.alloc (.cells #[.int .u8 0, .int .u32 0, .int .u32 0, .int .u16 0, .int .u16 0] 68)) := l0.trans (Later.trans l2 la)
  change Code.wp _ _ _ _ (w2.alloc (.cells #[.int .u8 0, .int .u32 0, .int .u32 0, .int .u16 0, .int .u16 0] 68))
  generalize w2.alloc (.cells #[.int .u8 0, .int .u32 0, .int .u32 0, .int .u16 0, .int .u16 0] 68) = w3 at *
  generalize w2.heap.size = g3 at *
  have k0 := block_cell D0.out
  by_cases h12 : e0 = 12
  ·have t2 : (e0 == 12) = true := by simp [h12]
   go_wp2_with fail
   refine (requoted_none base g s tos id ttl pr src dst keep so sd side zd w3 (h.later L3) (hT.later L3) (hP.later L3)).mono ?_
   rintro e w9 ⟨⟨c, hc, rfl⟩, l9⟩
   exact ⟨rfl, ⟨c, hc, rfl⟩, L3.trans l9⟩
  ·have t2 : (e0 == 12) = false := by rw [beq_eq_false_iff_ne]; exact h12
   go_wp2_with fail
   refine (grefuse_yes 1 _).mono ?_
   rintro e w4 ⟨rfl, rfl⟩
   exact ⟨rfl, ⟨1, by decide, rfl⟩, L3⟩
 subst h0
 have hv : otv 0 pr src dst a b = .agg #[.int .u8 pr, .int .u32 src, .int .u32 dst, .int .u16 a, .int .u16 b] := by unfold otv; rw [if_pos rfl]
 rw [hv]
 clear hv
 go_upto_region 2 with fail
 have la := later_allocG w2 (.cells #[.int .u8 pr, .int .u32 src, .int .u32 dst, .int .u16 a, .int .u16 b] 68)
 have C3 := hide (heap_alloc_new w2 (.cells #[.int .u8 pr, .int .u32 src, .int .u32 dst, .int .u16 a, .int .u16 b] 68))
 have D0 := hide (later_keep (Later.trans l2 la) C0.out)
 have L3 : Later w (w2.alloc (.cells #[.int .u8 pr, .int .u32 src, .int .u32 dst, .int .u16 a, .int .u16 b] 68)) := l0.trans (Later.trans l2 la)
 change Code.wp _ _ _ _ (w2.alloc (.cells #[.int .u8 pr, .int .u32 src, .int .u32 dst, .int .u16 a, .int .u16 b] 68))
 generalize w2.alloc (.cells #[.int .u8 pr, .int .u32 src, .int .u32 dst, .int .u16 a, .int .u16 b] 68) = w3 at *
 generalize w2.heap.size = g3 at *
 clear C0 l2 la
 have k0 := block_cell D0.out
 have k3 := block_cell C3.out
 go_wp2_with fail
 refine (grefuse_no 1 _).mono ?_
 rintro e w4 ⟨rfl, hw4⟩
 subst hw4
 go_wp2_with fail
 refine (owner_none base g s tos id ttl pr src dst keep so sd side zd pr src dst a b w3 (h.later L3) hS (hP.later L3) hP.2.2.2.1 hP.2.2.2.2 b3 b4).mono ?_
 rintro e w9 ⟨⟨c, hc, rfl⟩, l9⟩
 exact ⟨rfl, ⟨c, hc, rfl⟩, L3.trans l9⟩
end Go.Proofs.YtofknbfbmaefoaaGreatDoor
