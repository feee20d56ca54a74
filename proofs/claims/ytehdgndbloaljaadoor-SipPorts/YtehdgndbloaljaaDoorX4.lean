/- Several texts in one. -/
import Derived.OrdersIn
import Derived.RangeFuncCalls
import Derived.Test.YtehdgndbloaljaaDoorRg
import Derived.Test.YtehdgndbloaljaaDoorRv
import Derived.Test.YtehdgndbloaljaaDoorIL
import Derived.Test.YtehdgndbloaljaaDoorRz
import Derived.Lib.AppendStr
import Derived.Deep.Cut
import Derived.Test.YtehdgndbloaljaaDoorV5
import Derived.Test.YtehdgndbloaljaaDoorRk
import Derived.Deep.AppendLies
import Derived.Deep.Upon
import Derived.Deep.SlicePairs
import Derived.Test.YtehdgndbloaljaaDoorRows
import Derived.Test.YtehdgndbloaljaaDoorOp2
import Derived.ProofKit
import Derived.OpenShut
import Derived.Lib.SmallJoins
/- A region that draws its order, in a round of a range over a function. -/
namespace Go.Proofs.YtehdgndbloaljaaDoor
open Go.RowKit Go.Shelf
set_option maxRecDepth 100000
set_option linter.unusedVariables false

def calmQ (Q : Act → World → Prop) : Exit → Act → World → Prop := fun e a w => e = .normal ∧ Q a w
theorem calmQ_out {Q : Act → World → Prop} (h : LetsOut (calmQ Q)) : False := by
  have := h
  simp [LetsOut, calmQ] at this
theorem opIn_round {P : Program} {o : Oper} {a : Act} {w : World} {K : Act → World → Prop} {Q : Exit → Act → World → Prop} (l n : Nat) (hd : ∀ c, o.op ≠ .defer c) (h : o.wp P a w K Q) : o.wpIn (Fence.wide.inRound l) n P a w K Q := by
  unfold Oper.wpIn
  refine ⟨fun _ _ => trivial, ?_⟩
  rw [show (Fence.wide.inRound l).round = some l from rfl, Oper.semAt_some l _ _ hd]
  unfold Oper.wp at h
  generalize (execOp a.eval o).run P w = r at *
  cases r with
  | ok x w' =>
    cases x with
    | enter f args => exact ⟨(fun h0 => by cases h0), CallsIn.inRound l (callsIn_wide.2 h)⟩
    | row r args => exact ⟨(fun h0 => by cases h0), fun c cs _ => let ⟨v, w2, r1, s1⟩ := h c cs; ⟨v, w2, r1, stepsIn_wide.2 s1⟩⟩
    | value v => exact h
    | skip => exact h
    | defer d => exact h
    | round a b c d e => exact h.elim
    | _ => exact h.elim
  | halt x w' => cases x <;> exact h
theorem wpAnyIn_round {P : Program} {md : Region.Mode} {ops : Array Oper} {Q : Act → World → Prop} (l n : Nat) (hd : ∀ (i : Nat) (o : Oper), ops[i]? = some o → ∀ c, o.op ≠ .defer c) : ∀ (fuel : Nat) (listed : Array Bool) (a : Act) (w : World),
    wpAny P md ops (calmQ Q) fuel listed a w → wpAnyIn (Fence.wide.inRound l) n P md ops (calmQ Q) fuel listed a w
  | 0, _, _, _, h => h
  | fuel + 1, listed, a, w, h => ⟨h.1, fun i hi => by
    have h2 := h.2 i hi
    unfold wpOp at h2
    unfold wpOpIn
    cases ho : ops[i]? with
    | none => rw [ho] at h2; exact wpAnyIn_round l n hd fuel _ _ _ h2
    | some o =>
      rw [ho] at h2
      simp only at h2 ⊢
      split
      · rename_i hw
        rw [if_pos hw] at h2
        rcases h2 with h2 | h2
        · exact Oper.wpIn_mono (fun a' w' h' => wpAnyIn_round l n hd fuel _ a' w' h') (opIn_round l n (hd i o ho) h2)
        · exact (calmQ_out h2.2).elim
      · rename_i hw
        rw [if_neg hw] at h2
        exact ⟨fun _ _ => trivial, wpAnyIn_round l n hd fuel _ _ _ h2⟩⟩
variable {P : Program} {R : World → World → Prop} {w : World} {a : Act} {ops : List Oper}
theorem anyR_beginIn (hp : Pre R) (hdr : ∀ w : World, R w w.drew) {id : Nat} {Q : Exit → Act → World → Prop} {l₀ m : Nat} (n : Nat) (hn : ops.length = n) (hm : P.follows .mixedOrders = true) (hd : ∀ (i : Nat) (o : Oper), ops[i]? = some o → ∀ c, o.op ≠ .defer c)
    (h : ∀ w₁, R w w₁ → wpAnyR P .any ops.toArray (calmQ (Q .normal)) R n (Array.replicate n false) a w₁) : (Code.region id ops.toArray true).wpIn (Fence.wide.inRound l₀) m P Q a w := by
  subst hn
  refine wpIn_mono (wpIn_region_any hm (wpAnyIn_round l₀ m (fun i o ho => hd i o (by simpa using ho)) _ _ _ _ (wpAny_of_R hp.1 _ _ _ _ ?_))) (fun e a w h => by obtain ⟨rfl, h⟩ := h; exact h)
  have := h { w with drawn := w.drawn + 1 } (hdr w)
  simpa using this
theorem anyU_beginIn {R1 R2 : World → World → Prop} {D : List Nat} {id : Nat} {Q : Exit → Act → World → Prop} {l₀ m : Nat} (n : Nat) (hn : ops.length = n) (hm : P.follows .mixedOrders = true) (hd : ∀ (i : Nat) (o : Oper), ops[i]? = some o → ∀ c, o.op ≠ .defer c)
    (h : wpAnyU P .any ops.toArray (calmQ (Q .normal)) R1 R2 D n (Array.replicate n false) a w.drew) : (Code.region id ops.toArray true).wpIn (Fence.wide.inRound l₀) m P Q a w := by
  subst hn
  refine wpIn_mono (wpIn_region_any hm (wpAnyIn_round l₀ m (fun i o ho => hd i o (by simpa using ho)) _ _ _ _ (wpAny_of_U (R1 := R1) (R2 := R2) (D := D) _ _ _ _ ?_))) (fun e a w h => by obtain ⟨rfl, h⟩ := h; exact h)
  simpa using h
theorem anyU_two {R1 R2 : World → World → Prop} {D : List Nat} {fuel : Nat} {listed : Array Bool} {Q : Exit → Act → World → Prop} (i j : Nat) {oi oj : Oper} (hi : nthOp ops i = some oi) (hj : nthOp ops j = some oj) (hr : Region.ready .any ops.toArray listed = [i, j]) (gi : Region.wanted oi (yielded ops.toArray a.tmps) = true) (gj : Region.wanted oj (yielded ops.toArray a.tmps) = true)
    (h1 : oi.wp P a w (fun a' w'' => Rj R1 R2 D i w w'' ∧ wpAnyU P .any ops.toArray Q R1 R2 D fuel (listed.setIfInBounds i true) a' w'') Q)
    (h2 : oj.wp P a w (fun a' w'' => Rj R1 R2 D j w w'' ∧ wpAnyU P .any ops.toArray Q R1 R2 D fuel (listed.setIfInBounds j true) a' w'') Q) :
    wpAnyU P .any ops.toArray Q R1 R2 D (fuel + 1) listed a w := by
  have hi' : ops.toArray[i]? = some oi := by rw [← hi, nthOp_eq]; simp
  have hj' : ops.toArray[j]? = some oj := by rw [← hj, nthOp_eq]; simp
  refine ⟨fun h0 => (by rw [hr] at h0; cases h0), fun k hk => ?_⟩
  rw [hr] at hk
  unfold wpOp
  rcases List.mem_cons.1 hk with rfl | hk
  · rw [hi']; simp only [gi, if_true]; exact .inl h1
  · obtain rfl : k = j := by simpa using hk
    rw [hj']; simp only [gj, if_true]; exact .inl h2
/-- No operation of these is put off. -/
def noDefer : List Oper → Bool
  | [] => true
  | o :: r => (match o.op with | .defer _ => false | _ => true) && noDefer r
theorem noDefer_spec : ∀ {l : List Oper}, noDefer l = true → ∀ (i : Nat) (o : Oper), l[i]? = some o → ∀ c, o.op ≠ .defer c
  | [], _, i, o, h, c => by simp at h
  | x :: r, hn, 0, o, h, c => by
    simp at h
    subst h
    intro e
    simp [noDefer, e] at hn
  | x :: r, hn, i + 1, o, h, c => by
    simp [noDefer] at hn
    exact noDefer_spec hn.2 i o (by simpa using h) c
/-- append of a text, by what it yields. -/
theorem wp_appT {o : Oper} {K : Act → World → Prop} {Q : Exit → Act → World → Prop} (s x : Operand) (t u : TypeId) (hop : o.op = Op.call { callee := Callee.builtin Builtin.append, args := #[s, x], argTypes := #[t, u] })
    (v sx : Value) (hs : a.eval s = v) (hx : a.eval x = sx) (v' : Value) (w' : World) (hrun : (Builtin.append_ #[t, u] o.type #[v, sx]).run P w = .ok v' w') (hK : K (a.put o.dst v') w') : o.wp P a w K Q := by
  unfold Oper.wp
  simp [execOp, hop, resolve, invoke, builtin, hs, hx, hrun, Result.andThen]
  exact hK
end Go.Proofs.YtehdgndbloaljaaDoor

/- Package sip: the lines of a text, one after the other. -/
namespace Go.Proofs.YtehdgndbloaljaaDoor
open Go.RowKit Go.Shelf
set_option maxRecDepth 100000
attribute [local go_sem] Oper.semAt_some
set_option linter.unusedVariables false
set_option linter.unusedSimpArgs false

def crB : ByteArray := ⟨#[13, 10]⟩
theorem ba_len (s : ByteArray) : s.size = s.data.toList.length := by rw [Array.length_toList]; rfl
theorem ba_ext {s t : ByteArray} (h : s.data.toList = t.data.toList) : s = t := by
  cases s; cases t; simp only at h; congr 1; exact Array.toList_inj.1 h
theorem cutA_data (s p : ByteArray) : (cutA s p).data.toList = (Lib.cut s.data.toList p.data.toList).1 := by unfold cutA; simp
theorem cutZ_data (s p : ByteArray) : (cutZ s p).data.toList = (Lib.cut s.data.toList p.data.toList).2.1 := by unfold cutZ; simp
/-- What cutting tells: the parts, and nothing of the kind ahead. -/
theorem cut_spec (s p : ByteArray) : (cutF s p = true ∧ s.data.toList = (cutA s p).data.toList ++ (p.data.toList ++ (cutZ s p).data.toList) ∧ Lib.NoOcc s.data.toList p.data.toList (cutA s p).size) ∨
    (cutF s p = false ∧ cutA s p = s ∧ cutZ s p = ⟨#[]⟩ ∧ ∀ j, j ≤ s.size → Lib.occAt s.data.toList p.data.toList j = false) := by
  rw [ba_len, ba_len, cutA_data, cutZ_data]
  have h3 : cutF s p = (Lib.cut s.data.toList p.data.toList).2.2 := rfl
  rw [h3]
  rcases Lib.index_spec s.data.toList p.data.toList with ⟨h1, h2⟩ | ⟨i, h1, h2, ho, hn⟩
  · refine .inr ?_
    have hc : Lib.cut s.data.toList p.data.toList = (s.data.toList, [], false) := by unfold Lib.cut; rw [if_neg (by omega)]
    refine ⟨by rw [hc], ba_ext (by rw [cutA_data, hc]), ba_ext (by rw [cutZ_data, hc]), h2⟩
  · refine .inl ?_
    have hc : Lib.cut s.data.toList p.data.toList = (s.data.toList.take i, s.data.toList.drop (i + p.data.toList.length), true) := by unfold Lib.cut; rw [if_pos (by omega), h1]; rfl
    rw [hc]
    refine ⟨rfl, ?_, by simp only [List.length_take]; rw [Nat.min_eq_left h2]; exact hn⟩
    simp only
    unfold Lib.occAt at ho
    obtain ⟨t, ht⟩ := List.isPrefixOf_iff_prefix.1 ho
    have : s.data.toList.drop (i + p.data.toList.length) = t := by
      rw [← List.drop_drop, ← ht, List.drop_left]
    rw [this, ht, List.take_append_drop]
/-- What stands between the two parts. -/
def betw (s p : ByteArray) : ByteArray := s.extract (cutA s p).size (s.size - (cutZ s p).size)
theorem cut_sizes (s p : ByteArray) : (cutA s p).size + (cutZ s p).size ≤ s.size ∧ (s.size ≠ 0 → p.size ≠ 0 → (cutZ s p).size < s.size) := by
  rcases cut_spec s p with ⟨_, h, _⟩ | ⟨_, h1, h2, _⟩
  · have := congrArg List.length h
    rw [List.length_append, List.length_append, ← ba_len, ← ba_len, ← ba_len, ← ba_len] at this
    omega
  · rw [h1, h2]
    have : ByteArray.size ⟨#[]⟩ = 0 := rfl
    omega
/-- A text's lines, with what ends each. -/
def lnsF : Nat → ByteArray → List (ByteArray × ByteArray)
  | 0, _ => []
  | n + 1, s => if s.size = 0 then [] else (cutA s crB, betw s crB) :: lnsF n (cutZ s crB)
def lnsB (s : ByteArray) : List (ByteArray × ByteArray) := lnsF s.size s
theorem lnsF_fuel : ∀ (n m : Nat) (s : ByteArray), s.size ≤ n → s.size ≤ m → lnsF n s = lnsF m s
  | 0, 0, s, _, _ => rfl
  | 0, m + 1, s, h, _ => by unfold lnsF; rw [if_pos (by omega)]
  | n + 1, 0, s, _, h => by unfold lnsF; rw [if_pos (by omega)]
  | n + 1, m + 1, s, h1, h2 => by
    unfold lnsF
    split
    · rfl
    · have := (cut_sizes s crB).2 (by assumption) (by decide)
      rw [lnsF_fuel n m (cutZ s crB) (by omega) (by omega)]
theorem lnsB_nil {s : ByteArray} (h : s.size = 0) : lnsB s = [] := by unfold lnsB; rw [h]; rfl
theorem lnsB_cons {s : ByteArray} (h : s.size ≠ 0) : lnsB s = (cutA s crB, betw s crB) :: lnsB (cutZ s crB) := by
  have hz := (cut_sizes s crB).2 h (by decide)
  unfold lnsB
  obtain ⟨n, hn⟩ : ∃ n, s.size = n + 1 := ⟨s.size - 1, by omega⟩
  rw [hn]
  have e : lnsF (n + 1) s = (cutA s crB, betw s crB) :: lnsF n (cutZ s crB) := by
    show (if s.size = 0 then [] else _) = _
    rw [if_neg h]
  rw [e]
  congr 1
  exact lnsF_fuel n (cutZ s crB).size (cutZ s crB) (by omega) (Nat.le_refl _)

theorem lines_in (n : Nat) (s : ByteArray) (w : World) :
    CallsIn Fence.wide n Tryd.prog 28 #[.string s] w fun e w' => e = .returned (.func (.func 46) #[] #[.pointer (some ⟨w.heap.size, 0, none⟩)]) ∧ w' = w.alloc (.cells #[.string s] 9) := by
  refine callsIn_of_wp Tryd.func28 rfl trivial ?_ rfl
  simp only [Tryd.ntmps28, List.size_toArray, List.length_cons, List.length_nil, Nat.reduceAdd, Nat.reduceSub, Array.replicate_succ, Array.replicate_zero, List.push_toArray, List.append_toArray, List.nil_append, List.cons_append]
  gi_wp2
  go_ret
  exact ⟨rfl, rfl⟩

def encL (r : ByteArray × ByteArray) : Array Value := #[.string r.1, .string r.2]
def XL (l : List (ByteArray × ByteArray)) (pre : List (ByteArray × ByteArray)) (x : ByteArray × ByteArray) (_V : World) : Prop := ∃ rest, pre ++ x :: rest = l

set_option maxRecDepth 100000 in
set_option maxHeartbeats 4000000 in
theorem lines1_in (n : Nat) (hn : 1 ≤ n) (l B : Nat) (s : ByteArray) (w0 : World) (hM : TabM w0) (hs : s.size ≤ 1000000) (J Jx : List (ByteArray × ByteArray) → World → Prop) (hJ : ∀ s A B, J s A → Later A B → J s B)
    (hY : ∀ pre x V, J pre V → XL (lnsB s) pre x V → YieldAt Fence.wide (n - 1) Tryd.prog l (encL x) V fun e V' => (e = .returned (.bool true) ∧ J (pre ++ [x]) V' ∧ Below w0.heap.size V V') ∨ (e = .returned (.bool false) ∧ Jx (pre ++ [x]) V'))
    (W : World) (hB : W.cell? ⟨B, 0, none⟩ = some (.string s)) (hW : Later w0 W) (h0 : J [] W) :
    CallsIn Fence.wide n Tryd.prog 46 #[.func (.yield l) #[] #[], .pointer (some ⟨B, 0, none⟩)] W fun e W' => (∃ v, e = .returned v) ∧ ((∃ xs, xs = lnsB s ∧ J xs W') ∨ (∃ pre, (∃ rest, pre ++ rest = lnsB s) ∧ Jx pre W')) := by
  refine callsIn_of_wp Tryd.func46 rfl trivial ?_ rfl
  simp only [Tryd.ntmps46, List.size_toArray, List.length_cons, List.length_nil, Nat.reduceAdd, Nat.reduceSub, Array.replicate_succ, Array.replicate_zero, List.push_toArray, List.append_toArray, List.nil_append, List.cons_append]
  gi_wp2
  clear hB
  gi_loopw [3] (fun i wx => ∃ (pre : List (ByteArray × ByteArray)) (t : ByteArray), i = .string t ∧ t.size ≤ 1000000 ∧ Hid (pre ++ lnsB t = lnsB s) ∧ J pre wx ∧ Later w0 wx) (fun i _ => match i with | .string t => t.size | _ => 0)
  case atStart => exact ⟨[], s, rfl, hs, rfl, h0, hW⟩
  case round =>
    obtain ⟨pre, t, rfl, ht, hpre, hJk, hLk⟩ := hrel
    by_cases hz : t.size = 0
    · have hp2 := hpre.out
      rw [lnsB_nil hz, List.append_nil] at hp2
      have HP2 := hide hp2
      obtain rfl := str_empty t hz
      clear hp2 hpre
      gi_wp2
      go_end0
      exact ⟨⟨_, rfl⟩, .inl ⟨_, HP2.out, hJk⟩⟩
    · have he := str_ne hz
      have hc := cut_sizes t crB
      have hp2 := hpre.out
      rw [lnsB_cons hz] at hp2
      have HP2 := hide hp2
      have HCT := hide ((callsIn_wide (n := n - 1)).2 (cut_any t crB wr (hM.later hLk) ht))
      have hc1 := hc.1
      have hc2 := hc.2 hz (by decide)
      have HBE : Hid (betw t crB = t.extract (cutA t crB).size (t.size - (cutZ t crB).size)) := rfl
      clear hpre hp2 hc hz
      generalize betw t crB = bt at *
      generalize cutA t crB = ca at *
      generalize cutZ t crB = cz at *
      generalize cutF t crB = cf at *
      have hsz' : (t.size : Int) ≤ 1000000 := by omega
      gi_wp2
      refine ⟨trivial, ?_⟩
      refine HCT.out.mono ?_
      rintro e w3 ⟨rfl, l3⟩
      obtain ⟨fn, tmps, assign, body, hy, hRr⟩ := hY _ (ca, bt) _ (hJ _ _ _ hJk l3) ⟨_, HP2.out⟩
      dsimp only [encL] at hy
      have HRR := hide hRr
      rw [HBE.out] at hy
      have h1 : (ca.size : Int) ≤ (t.size : Int) - (cz.size : Int) := by omega
      have h2 : (t.size : Int) - (cz.size : Int) = ((t.size - cz.size : Nat) : Int) := by omega
      have h3 : t.size - cz.size ≤ t.size := by omega
      have h4 : ca.size ≤ t.size - cz.size := by omega
      clear HCT hRr
      gi_wp2
      refine HRR.out.mono ?_
      rintro e W3 (⟨rfl, hJ3, hk3⟩ | ⟨rfl, hJx3⟩)
      · gi_wp2
        go_roundw
        case rel => exact ⟨pre ++ [(ca, bt)], cz, rfl, by omega, by (show _ = _; rw [List.append_assoc]; exact HP2.out), hJ3, Below.trans (hLk.trans l3) hk3⟩
        case measure => (show cz.size < t.size); exact hc2
      · gi_wp2
        refine bodyPost_ret (results_none rfl _ _ _) rfl ?_
        exact ⟨⟨_, rfl⟩, .inr ⟨_, ⟨lnsB cz, by rw [List.append_assoc]; exact HP2.out⟩, hJx3⟩⟩

theorem lines_gen (n : Nat) (hn : 1 ≤ n) (B : Nat) (s : ByteArray) (w0 w : World) (hM : TabM w0) (hs : s.size ≤ 1000000) (hw : Later w0 w) (hBl : B < w.heap.size) (hB : w.cell? ⟨B, 0, none⟩ = some (.string s)) :
    GenX Fence.wide n Tryd.prog 46 #[.pointer (some ⟨B, 0, none⟩)] encL (Below w0.heap.size) (XL (lnsB s)) (fun xs => xs = lnsB s) (fun pre => ∃ rest, pre ++ rest = lnsB s) w := fun l J Jx W hW hJ hY h0 =>
  lines1_in n hn l B s w0 hM hs J Jx hJ hY W ((hW.cell (p := ⟨B, 0, none⟩) hBl).trans hB) (hw.trans hW) h0
end Go.Proofs.YtehdgndbloaljaaDoor

/- Package sip: a body, changed line by line. -/
namespace Go.Proofs.YtehdgndbloaljaaDoor
open Go.RowKit Go.Shelf
set_option maxRecDepth 100000
attribute [local go_sem] Oper.semAt_some
set_option linter.unusedVariables false
set_option linter.unusedSimpArgs false

def CTs (A B : World) : Prop := A.heap.size ≤ B.heap.size ∧ ∀ (k : Nat) (o : Obj), A.heap[k]? = some o → o.isCells = true → B.heap[k]? = some o
theorem CTs.of {A B : World} (h : Later A B) : CTs A B := ⟨h.size, fun k o ho _ => later_keep h ho⟩
theorem CTs.row {A B : World} {row : Option Nat} (hg : A.grownBy B row) (hr : ∀ r, row = some r → ∃ o : Obj, A.heap[r]? = some o ∧ o.isCells = false) : CTs A B :=
  ⟨hg.size, fun k o ho hc => (hg.block k (Array.getElem?_eq_some_iff.1 ho).1 (fun e => by obtain ⟨o', h1, h2⟩ := hr k e.symm; rw [ho] at h1; cases h1; rw [hc] at h2; cases h2)).trans ho⟩
theorem CTs.put {A : World} {l : Nat} {o o' : Obj} (h : A.heap[l]? = some o) (hc : o.isCells = false) : CTs A (A.putObj l o') :=
  CTs.row (grownBy_putObj' A l o') (fun r e => by cases e; exact ⟨o, h, hc⟩)
theorem ownsS_ct {base : Nat} {e : TypeId} {size : Nat} {A B : World} {v : Value} {n : Nat} {xs : List Value} (h : A.ownsRow base e size v n xs) (c : CTs A B) : B.ownsRow base e size v n xs := by
  obtain ⟨h1, h2 | ⟨g, cap, cur, hv, hg, hh, r⟩⟩ := h
  · exact ⟨h1, .inl h2⟩
  · exact ⟨h1, .inr ⟨g, cap, cur, hv, hg, c.2 _ _ hh rfl, r⟩⟩

/-- Lines, changed, one behind the other. -/
def bdL (c : Cg) (ls : List (ByteArray × ByteArray)) : ByteArray := ls.foldl (fun b x => b ++ (lnB c x.1 ++ x.2)) ⟨#[]⟩
theorem bdL_snoc (c : Cg) (l : List (ByteArray × ByteArray)) (x : ByteArray × ByteArray) : bdL c (l ++ [x]) = bdL c l ++ (lnB c x.1 ++ x.2) := by unfold bdL; simp
def bdB (c : Cg) (s : ByteArray) : ByteArray := bdL c (lnsB s)
theorem lnB_size (c : Cg) (hc : c.wf) (l : ByteArray) : (lnB c l).size ≤ 2 * l.size + 2010 := by
  obtain ⟨⟨h1, h2⟩, _, _, h5⟩ := hc
  unfold lnB
  split
  · rw [ByteArray.size_append]; have : cnB.size = 9 := rfl; omega
  split
  · rw [ByteArray.size_append]; have := tsB_size l c.host; omega
  cases hm : mdO l with
  | none => simp only [mlB]; omega
  | some m =>
    obtain ⟨a, p, b⟩ := m
    simp only [mlB]
    obtain ⟨q1, q2, q3⟩ := mdO_size hm
    have hd := decB_size (inB c.media p).toNat (by have := inB_rng h5 q3; omega)
    rw [ByteArray.size_append, ByteArray.size_append]
    omega
def nvs (r : ByteArray) : List Value := (nmsB r).map (Value.int .u8)
theorem nvs_str (r : ByteArray) : nvs r = Lib.strCells r := by unfold nvs nmsB Lib.strCells; rw [List.map_map]; rfl
theorem nvs_app (s t : ByteArray) : nvs (s ++ t) = nvs s ++ nvs t := by unfold nvs nmsB; simp
/-- Every line is a part of the text. -/
theorem lnsF_mem : ∀ (n : Nat) (s : ByteArray) (x : ByteArray × ByteArray), x ∈ lnsF n s → x.1.size ≤ s.size ∧ x.2.size ≤ s.size
  | 0, s, x, h => by cases h
  | n + 1, s, x, h => by
    unfold lnsF at h
    split at h
    · cases h
    · have hz := cut_size s crB
      rcases List.mem_cons.1 h with rfl | h
      · refine ⟨hz.1, ?_⟩
        unfold betw
        rw [ByteArray.size_extract]
        omega
      · have := lnsF_mem n _ x h
        omega
theorem lnsF_len : ∀ (n : Nat) (s : ByteArray), (lnsF n s).length ≤ n
  | 0, s => Nat.le_refl _
  | n + 1, s => by
    unfold lnsF
    split
    · simp
    · have := lnsF_len n (cutZ s crB)
      simp only [List.length_cons]
      omega
theorem bdL_size (c : Cg) (hc : c.wf) (k : Nat) : ∀ (n : Nat) (l : List (ByteArray × ByteArray)), l.length = n → (∀ x ∈ l, x.1.size ≤ k ∧ x.2.size ≤ k) → (bdL c l).size ≤ n * (3 * k + 2010)
  | 0, l, hl, _ => by
    rw [List.length_eq_zero_iff.1 hl]
    exact Nat.zero_le _
  | n + 1, l, hl, h => by
    rcases List.eq_nil_or_concat l with rfl | ⟨l', x, e⟩
    · cases hl
    rw [List.concat_eq_append] at e
    subst e
    have h1 := bdL_size c hc k n l' (by simpa using hl) (fun y hy => h y (List.mem_append_left _ hy))
    have h2 := h x (List.mem_append_right _ (List.mem_singleton_self x))
    have h3 := lnB_size c hc x.1
    rw [bdL_snoc, ByteArray.size_append, ByteArray.size_append, Nat.add_mul, Nat.one_mul]
    omega

/-- What body keeps while it goes along the lines. -/
def PB14 (rb base : Nat) (c : Cg) (mv : Value) (pre : List (ByteArray × ByteArray)) (W : World) : Prop :=
  (∃ v, W.heap[rb + 1]? = some (.cells #[v] 22 (0, 0)) ∧ W.ownsRow base 5 1 v (bdL c pre).size (nvs (bdL c pre))) ∧ W.heap[rb]? = some (.cells #[.string c.host, .string c.is, .int .u16 c.port, .int .u16 c.np, mv] 94 (0, 0))
theorem PB14.ct {rb base : Nat} {c : Cg} {mv : Value} {pre : List (ByteArray × ByteArray)} {A B : World} (h : PB14 rb base c mv pre A) (k : CTs A B) : PB14 rb base c mv pre B := by
  obtain ⟨⟨v, h1, h2⟩, h3⟩ := h
  exact ⟨⟨v, k.2 _ _ h1 rfl, ownsS_ct h2 k⟩, k.2 _ _ h3 rfl⟩
theorem owns_form {W : World} {base : Nat} {e : TypeId} {size : Nat} {v : Value} {n : Nat} {xs : List Value} (h : W.ownsRow base e size v n xs) : ∃ a cap, v = .slice a n cap := by
  rcases h.2 with ⟨rfl, rfl⟩ | ⟨g, cap, cur, rfl, _⟩
  · exact ⟨_, _, rfl⟩
  · exact ⟨_, _, rfl⟩
theorem owns_blk {W : World} {base : Nat} {e : TypeId} {size : Nat} {v : Value} {n : Nat} {xs : List Value} (h : W.ownsRow base e size v n xs) : ∀ r, v.ownBlock = some r → ∃ cur, W.heap[r]? = some (.cells cur e (0, 0)) ∧ base ≤ r := fun r hr => by
  rcases h.2 with ⟨rfl, rfl⟩ | ⟨g, cap, cur, rfl, hg, hh, _⟩
  · cases hr
  · cases hr; exact ⟨cur, hh, hg⟩
theorem hsetS_ne {W : World} {n m j : Nat} {v : Value} {o : Obj} (h : W.heap[n]? = some o) (hne : n ≠ m) : (W.setCell ⟨m, j, none⟩ v).heap[n]? = some o := (Below.heap_setCell W ⟨m, j, none⟩ v n hne).trans h

set_option maxRecDepth 100000 in
set_option maxHeartbeats 8000000 in
theorem body_any (c : Cg) (mv sb : Value) (zb : List Int) (w : World) (hT : TabI w) (hM : TabM w) (hc : c.wf) (hI : RdP2 w.heap.size w mv c.media) (hB : Rd w.heap.size w sb zb) (hz : zb.length ≤ 4096) :
    Calls Tryd.prog 59 #[.agg #[.string c.host, .string c.is, .int .u16 c.port, .int .u16 c.np, mv], sb] w fun e w' => Later w w' ∧ ∃ v, e = .returned v ∧ w'.ownsRow w.heap.size 5 1 v (bdB c (strOfNums zb)).size (nvs (bdB c (strOfNums zb))) := by
  have hcv : ∀ W, Later w W → (convert 22 9 sb).run Tryd.prog W = .ok (.string (strOfNums zb)) W := fun W hW => conv_rd 22 9 5 Tryd.underlying22 Tryd.underlying5 Tryd.underlying9 (hB.below hW)
  have hss : (strOfNums zb).size ≤ 4096 := by rw [strOfNums_size]; exact hz
  unfold bdB
  generalize strOfNums zb = s at *
  refine (callsIn_wide (n := 5)).1 ?_
  refine callsIn_of_wp_marks Tryd.func59 rfl trivial ?_ rfl
  simp only [Tryd.ntmps59, List.size_toArray, List.length_cons, List.length_nil, Nat.reduceAdd, Nat.reduceSub, Array.replicate_succ, Array.replicate_zero, List.push_toArray, List.append_toArray, List.nil_append, List.cons_append]
  have hcv0 := hcv ((w.alloc (.cells #[.string c.host, .string c.is, .int .u16 c.port, .int .u16 c.np, mv] 94)).alloc (.cells #[.slice none 0 0] 22)) (((Below.refl _ _).alloc (Nat.le_refl _) _).alloc (by simp) _)
  have hb4 : Later w (((w.alloc (.cells #[.string c.host, .string c.is, .int .u16 c.port, .int .u16 c.np, mv] 94)).alloc (.cells #[.slice none 0 0] 22)).alloc (.cells #[.string s] 9)) := (((Below.refl _ _).alloc (Nat.le_refl _) _).alloc (by simp) _).alloc (by simp <;> omega) _
  have c0 : (((w.alloc (.cells #[.string c.host, .string c.is, .int .u16 c.port, .int .u16 c.np, mv] 94)).alloc (.cells #[.slice none 0 0] 22)).alloc (.cells #[.string s] 9)).heap[w.heap.size]? = some (.cells #[.string c.host, .string c.is, .int .u16 c.port, .int .u16 c.np, mv] 94) := (Below.heap_alloc _ _ _ (by simp <;> omega)).trans ((Below.heap_alloc _ _ _ (by simp)).trans (heap_alloc_new w _))
  have c1 : (((w.alloc (.cells #[.string c.host, .string c.is, .int .u16 c.port, .int .u16 c.np, mv] 94)).alloc (.cells #[.slice none 0 0] 22)).alloc (.cells #[.string s] 9)).heap[w.heap.size + 1]? = some (.cells #[.slice none 0 0] 22) := by
    have := heap_alloc_new (w.alloc (.cells #[.string c.host, .string c.is, .int .u16 c.port, .int .u16 c.np, mv] 94)) (.cells #[.slice none 0 0] 22)
    rw [World.size_alloc] at this
    exact (Below.heap_alloc _ _ _ (by simp)).trans this
  have c2 : (((w.alloc (.cells #[.string c.host, .string c.is, .int .u16 c.port, .int .u16 c.np, mv] 94)).alloc (.cells #[.slice none 0 0] 22)).alloc (.cells #[.string s] 9)).heap[w.heap.size + 1 + 1]? = some (.cells #[.string s] 9) := by
    have := heap_alloc_new ((w.alloc (.cells #[.string c.host, .string c.is, .int .u16 c.port, .int .u16 c.np, mv] 94)).alloc (.cells #[.slice none 0 0] 22)) (.cells #[.string s] 9)
    simpa only [World.size_alloc] using this
  have hs4 : (((w.alloc (.cells #[.string c.host, .string c.is, .int .u16 c.port, .int .u16 c.np, mv] 94)).alloc (.cells #[.slice none 0 0] 22)).alloc (.cells #[.string s] 9)).heap.size = w.heap.size + 1 + 1 + 1 := by simp
  have C0 := hide c0
  have C1 := hide c1
  have C2 := hide c2
  have HS4 := hide hs4
  clear c0 c1 c2 hs4 hcv
  gi_wp2_with (refine ⟨trivial, ?_⟩; gi_at_call 28; refine (lines_in _ _ _).mono ?_; rintro e w' ⟨rfl, rfl⟩)
  clear hcv0
  generalize ((w.alloc (.cells #[.string c.host, .string c.is, .int .u16 c.port, .int .u16 c.np, mv] 94)).alloc (.cells #[.slice none 0 0] 22)).alloc (.cells #[.string s] 9) = w4 at *
  have hs4 : w4.heap.size = w.heap.size + 1 + 1 + 1 := HS4.out
  refine wpIn_rangeX (w := w4) rfl (by omega) (gf := 46) (lb := #[.pointer (some ⟨w.heap.size + 1 + 1, 0, none⟩)]) rfl trivial (enters_of Tryd.func46 (by kernel_rfl) rfl)
    (lines_gen 4 (by omega) (w.heap.size + 1 + 1) s w w4 hM (by omega) hb4 (by omega) (block_cell C2.out 0))
    (fun h k => h.trans k) (fun W l o o' hl ho hc hw => belowK_b (w := w4) (by omega) W l o o' hl ho hc hw) (fun hA hL => hL.mono (by omega)) (fun _ _ _ _ h _ => h) (fun _ _ _ _ _ _ _ _ _ h => h) (fun _ => rfl)
    (fun pre W => PB14 w.heap.size (w.heap.size + 1 + 1) c mv pre W ∧ Below w.heap.size w W) (fun pre W => False)
    (OwnFrom.and (fun s A B row hs hg hr => hs.ct (CTs.row hg (fun r e => (hr r e).2))) (ownFrom_below (Nat.le_refl _) (by omega)))
    (fun s A B h l => ⟨h.1.ct (CTs.of l), h.2.trans (l.mono h.2.size)⟩)
    (fun s A B row hs hg hr => hs)
    ⟨⟨⟨.slice none 0 0, C1.out, rfl, .inl ⟨rfl, rfl⟩⟩, C0.out⟩, hb4⟩
    (fun x a' W => a' = { tmps := #[.agg #[.string c.host, .string c.is, .int .u16 c.port, .int .u16 c.np, mv], sb, .pointer (some ⟨w.heap.size, 0, none⟩), undef, .slice none 0 0, .pointer (some ⟨w.heap.size + 1, 0, none⟩), .string x.1, .string x.2, sb, .string s, .func (.func 46) #[] #[.pointer (some ⟨w.heap.size + 1 + 1, 0, none⟩)], .string x.1, .string x.2, undef, undef, undef, undef, undef, undef, undef, undef], defers := [] })
    (fun x a' W l o o' hl ho hc h => h) ?assign ?body ?done ?stop
  case assign =>
    rintro l pre x W K hsz _ hX hK
    dsimp only [encL]
    gi_wp2
    exact hK _ _ (Below.refl _ _) rfl
  case body =>
    rintro l pre x a' W ⟨⟨⟨v, hob, hOw⟩, hr0⟩, hbW⟩ hX rfl
    have hbsz := hbW.size
    have hxm : ∀ y ∈ pre ++ [x], y ∈ lnsB s := fun y hy => by
      obtain ⟨rest, e⟩ := hX
      rw [← e]
      rcases List.mem_append.1 hy with h | h
      · exact List.mem_append_left _ h
      · rw [List.mem_singleton.1 h]; exact List.mem_append_right _ (List.mem_cons_self ..)
    have hxs := fun y hy => lnsF_mem _ s y (hxm y hy)
    have hx1 := hxs x (List.mem_append_right _ (List.mem_singleton_self x))
    have hpl : pre.length ≤ 4096 := by
      obtain ⟨rest, e⟩ := hX
      have h1 := congrArg List.length e
      have h2 := lnsF_len s.size s
      unfold lnsB at h1
      simp at h1
      omega
    have hps := bdL_size c hc 4096 pre.length pre rfl (fun y hy => by have := hxs y (List.mem_append_left _ hy); omega)
    have hps2 : (bdL c pre).size ≤ 4096 * 14298 := Nat.le_trans hps (Nat.mul_le_mul_right _ hpl)
    have hln := lnB_size c hc x.1
    obtain ⟨va, vc, rfl⟩ := owns_form hOw
    have hnn := bdL_snoc c pre x
    have HNN := hide hnn
    have HX := hide hX
    clear hxs hxm hps hnn hX
    refine wpIn_block ?_
    refine anyU_beginIn (R1 := Later) (R2 := fun _ _ => True) (D := [6, 7]) 8 rfl (by kernel_rfl) (noDefer_spec (by rfl)) ?_
    have ld : Later W W.drew := Later.drew W
    generalize W.drew = Wd at *
    have HOB := hide (later_keep ld hob)
    have HR0 := hide (later_keep ld hr0)
    have HOW := hide (ownsS_ct hOw (CTs.of ld))
    have LWd : Later w Wd := Below.trans hbW (ld.mono hbsz)
    have qB : ∀ v1, Later Wd v1 → ∀ j, v1.cell? ⟨w.heap.size + 1, j, none⟩ = #[Value.slice va (bdL c pre).size vc][j]? := fun v1 hv => block_cell (later_keep hv HOB.out)
    have qC : ∀ v1, Later Wd v1 → ∀ j, v1.cell? ⟨w.heap.size, j, none⟩ = #[Value.string c.host, .string c.is, .int .u16 c.port, .int .u16 c.np, mv][j]? := fun v1 hv => block_cell (later_keep hv HR0.out)
    refine anyU_val Later.pre 0 [6, 7] rfl (by rfl) (by rfl) (by kernel_rfl) (by kernel_rfl) (by kernel_rfl) (by kernel_rfl) (by kernel_rfl) (fun _ _ _ _ h => by cases h.1) (by rfl) ?_; apply Exists.intro; refine ⟨fun v1 hv1 => ?_, ?_⟩; (· (go_simp; rfl)); simp only [Act.put, List.setIfInBounds_toArray, List.set_cons_zero, List.set_cons_succ]
    refine anyU_val Later.pre 1 [3, 5, 6, 7] rfl (by rfl) (by rfl) (by kernel_rfl) (by kernel_rfl) (by kernel_rfl) (by kernel_rfl) (by kernel_rfl) (fun _ _ _ _ h => by cases h.1) (by rfl) ?_; apply Exists.intro; refine ⟨fun v1 hv1 => ?_, ?_⟩; (· (go_simp; rfl)); simp only [Act.put, List.setIfInBounds_toArray, List.set_cons_zero, List.set_cons_succ]
    refine anyU_val Later.pre 2 [3, 5, 6, 7] rfl (by rfl) (by rfl) (by kernel_rfl) (by kernel_rfl) (by kernel_rfl) (by kernel_rfl) (by kernel_rfl) (fun _ _ _ _ h => by cases h.1) (by rfl) ?_; apply Exists.intro; refine ⟨fun v1 hv1 => ?_, ?_⟩; (· (go_simp; rfl)); simp only [Act.put, List.setIfInBounds_toArray, List.set_cons_zero, List.set_cons_succ]
    refine anyU_val Later.pre 4 [5, 6, 7] rfl (by rfl) (by rfl) (by kernel_rfl) (by kernel_rfl) (by kernel_rfl) (by kernel_rfl) (by kernel_rfl) (fun _ _ _ _ h => by cases h.1) (by rfl) ?_; apply Exists.intro; refine ⟨fun v1 hv1 => ?_, ?_⟩; (· (go_simp; rfl)); simp only [Act.put, List.setIfInBounds_toArray, List.set_cons_zero, List.set_cons_succ]
    clear qB qC
    refine anyU_one 3 rfl (by kernel_rfl) (by rfl) ?_
    refine wp_enter 72 #[.agg #[.string c.host, .string c.is, .int .u16 c.port, .int .u16 c.np, mv], .string x.1] (by go_simp) ?_
    refine (line_any c mv x.1 Wd (hT.later LWd) (hM.later LWd) hc (hI.later LWd) (by omega)).mono ?_
    rintro e W1 ⟨rfl, l1⟩
    refine ⟨Rj_out (by rfl) l1, ?_⟩
    simp only [Act.put, List.setIfInBounds_toArray, List.set_cons_zero, List.set_cons_succ]
    refine anyU_one 5 rfl (by kernel_rfl) (by rfl) ?_
    refine wp_value (w' := W1) (.string (lnB c x.1 ++ x.2)) (by go_simp; omega) ?_
    refine ⟨Rj_out (by rfl) (Later.refl _), ?_⟩
    simp only [Act.put, List.setIfInBounds_toArray, List.set_cons_zero, List.set_cons_succ]
    refine anyU_one 6 rfl (by kernel_rfl) (by rfl) ?_
    have HOW1 := ownsS_ct HOW.out (CTs.of l1)
    obtain ⟨i0, hi0, hz0, hz1, hz2⟩ := info_partsS info_u8
    have hsz : (lnB c x.1 ++ x.2).size ≤ 20000 := by rw [ByteArray.size_append]; omega
    have hb1 : w.heap.size + 1 + 1 ≤ W1.heap.size := (Array.getElem?_eq_some_iff.1 (later_keep (ld.trans l1) hob)).1
    obtain ⟨v', W2, hrun, hrow, hg, _⟩ := Lib.run_append_own_string (P := Tryd.prog) W1 (w.heap.size + 1 + 1) 22 9 22 5 i0 Tryd.underlying22 Tryd.underlying9 hi0 hz0 hz1 hz2 _ _ _ HOW1 (lnB c x.1 ++ x.2) (by unfold maxLen; omega) (by omega) hb1
    refine wp_appT (.tmp 13) (.tmp 18) 22 9 rfl _ _ rfl rfl v' W2 hrun ?_
    refine ⟨Rj_in (by rfl) trivial, ?_⟩
    simp only [Act.put, List.setIfInBounds_toArray, List.set_cons_zero, List.set_cons_succ]
    obtain ⟨a2, cp2, rfl⟩ := owns_form hrow
    generalize hq : (bdL c pre).size + (lnB c x.1 ++ x.2).size = q at *
    have HQ := hide hq
    clear hq
    have hbk := owns_blk HOW1
    have hkp : ∀ i o, W1.heap[i]? = some o → (o.isCells = false ∨ i < w.heap.size + 1 + 1) → W2.heap[i]? = some o := fun i o ho hh => (hg.block i (Array.getElem?_eq_some_iff.1 ho).1 (fun e => by
      obtain ⟨cur, h1, h2⟩ := hbk i e.symm
      rw [ho] at h1
      cases h1
      rcases hh with h | h
      · cases h
      · omega)).trans ho
    have hob2 := hkp _ _ (later_keep l1 HOB.out) (.inr (by omega))
    have hr2 := hkp _ _ (later_keep l1 HR0.out) (.inr (by omega))
    have k2 := block_cell hob2
    have f2 := block_frozen hob2
    refine anyU_one 7 rfl (by kernel_rfl) (by rfl) ?_
    unfold Oper.wp
    go_simp
    refine ⟨Rj_in (by rfl) trivial, ?_⟩
    clear k2 f2
    refine anyU_done (by kernel_rfl) ?_
    generalize hvv : Value.slice a2 q cp2 = vv at *
    have hkeep : ∀ i o, W.heap[i]? = some o → (o.isCells = false ∨ i < w.heap.size + 1 + 1) → i ≠ w.heap.size + 1 → (W2.setCell ⟨w.heap.size + 1, 0, none⟩ vv).heap[i]? = some o := fun i o hi hh h2 => hsetS_ne (hkp i o (later_keep (ld.trans l1) hi) hh) h2
    have hsz2 : W.heap.size ≤ W2.heap.size := Nat.le_trans (ld.trans l1).size hg.size
    have hown2 : (W2.setCell ⟨w.heap.size + 1, 0, none⟩ vv).ownsRow (w.heap.size + 1 + 1) 5 1 vv (bdL c (pre ++ [x])).size (nvs (bdL c (pre ++ [x]))) := by
      rw [HNN.out, ByteArray.size_append, HQ.out, nvs_app, nvs_str (lnB c x.1 ++ x.2)]
      refine ⟨hrow.1, hrow.2.imp id ?_⟩
      rintro ⟨g, cp, cur, e1, e2, e3, r⟩
      exact ⟨g, cp, cur, e1, e2, hsetS_ne e3 (by omega), r⟩
    have hbn : Below w.heap.size W (W2.setCell ⟨w.heap.size + 1, 0, none⟩ vv) := ⟨hg.os.trans (ld.trans l1).os, hg.tape.trans (ld.trans l1).tape, hg.output.trans (ld.trans l1).output, by simp; omega, fun i hi => by
      cases hh : W.heap[i]? with
      | none => have := Array.getElem?_eq_none_iff.1 hh; omega
      | some o => exact hkeep i o hh (.inr (by omega)) (by omega)⟩
    refine ⟨rfl, ?_⟩
    show KeepsFrom _ _ _ ∧ Below _ _ _ ∧ _
    refine ⟨⟨by simp; omega, fun i o hi ho hc => hkeep i o ho (.inl hc) (by omega)⟩, hbn, ⟨⟨vv, heap_set1 hob2 0 _, hown2⟩, hkeep _ _ hr0 (.inr (by omega)) (by omega)⟩, hbW.trans hbn⟩
  case done =>
    rintro D xs W hD rfl ⟨⟨⟨v, h1, h2⟩, h3⟩, hbW⟩ hK
    obtain ⟨va, vc, rfl⟩ := owns_form h2
    have K1 := block_cell h1
    gi_wp2
    refine ⟨by simp, .inl ⟨_, _, rfl, run_takeDeferred hK, ?_⟩⟩
    refine ⟨.slice va (bdL c (lnsB s)).size vc, by simp [results, Tryd.results59, go_sem], hbW.trans (belowK_b (w := w) (Nat.le_refl _) W D _ _ (by omega) hK rfl rfl), _, rfl, ?_⟩
    obtain ⟨q1, q2⟩ := ownsS_ct h2 (CTs.put (o' := .deferred none) hK rfl)
    refine ⟨q1, q2.imp id ?_⟩
    rintro ⟨g, cp, cur, e1, e2, r⟩
    exact ⟨g, cp, cur, e1, by omega, r⟩
  case stop =>
    rintro D pre W hD _ h
    exact h.elim
end Go.Proofs.YtehdgndbloaljaaDoor

/- Package sip: a message, changed. -/
namespace Go.Proofs.YtehdgndbloaljaaDoor
open Go.RowKit Go.Shelf
set_option maxRecDepth 100000
set_option linter.unusedVariables false
set_option linter.unusedSimpArgs false

/-- Headers, changed, ahead of a body of so many bytes. -/
def mgH (c : Cg) (n : Nat) (hs : List Hr) : List Hr := hs.map fun h => (h.1, vuB c n h)
theorem mgH_take (c : Cg) (n : Nat) (hs : List Hr) (k : Nat) (hk : k < hs.length) : mgH c n (hs.take (k + 1)) = mgH c n (hs.take k) ++ [(hs[k].1, vuB c n hs[k])] := by
  unfold mgH
  rw [← List.take_append_getElem hk, List.map_append]
  rfl
theorem info_hdr : (Tryd.prog.info? 53).map (fun i => (i.zero, i.size, i.bytes)) = some (some (.agg #[.string ⟨#[]⟩, .string ⟨#[]⟩]), 2, 32) := by kernel_rfl
/-- What append to rows of headers leaves: blocks that are no such row. -/
theorem keep_row {W1 W2 : World} {base : Nat} {e : TypeId} {size : Nat} {v : Value} {n : Nat} {xs : List Value} (h : W1.ownsRow base e size v n xs) (hg : W1.grownBy W2 v.ownBlock) {i : Nat} {o : Obj} (ho : W1.heap[i]? = some o) (hh : (∀ cur f, o ≠ .cells cur e f) ∨ i < base) : W2.heap[i]? = some o :=
  (hg.block i (Array.getElem?_eq_some_iff.1 ho).1 (fun e => by
    obtain ⟨cur, h1, h2⟩ := owns_blk h i e.symm
    rw [ho] at h1
    cases h1
    rcases hh with h | h
    · exact h _ _ rfl
    · omega)).trans ho
theorem keep_own {W1 W2 : World} {base : Nat} {e : TypeId} {size : Nat} {v : Value} {n : Nat} {xs : List Value} (h : W1.ownsRow base e size v n xs) (hg : W1.grownBy W2 v.ownBlock) {base' : Nat} {e' : TypeId} {size' : Nat} {v' : Value} {n' : Nat} {xs' : List Value} (hne : e' ≠ e) (h2 : W1.ownsRow base' e' size' v' n' xs') : W2.ownsRow base' e' size' v' n' xs' := by
  obtain ⟨h1, h2 | ⟨g, cap, cur, hv, hg', hh, r⟩⟩ := h2
  · exact ⟨h1, .inl h2⟩
  · exact ⟨h1, .inr ⟨g, cap, cur, hv, hg', keep_row h hg hh (.inl fun c f e => by cases e; exact hne rfl), r⟩⟩
theorem own_set {W : World} {base : Nat} {e t : TypeId} {size : Nat} {v : Value} {n : Nat} {xs : List Value} (h : W.ownsRow base e size v n xs) {g : Nat} {cur : Array Value} (hg : W.heap[g]? = some (.cells cur t (0, 0))) (hne : e ≠ t) (j : Nat) (u : Value) : (W.setCell ⟨g, j, none⟩ u).ownsRow base e size v n xs := by
  obtain ⟨h1, h2 | ⟨g', cap, cur', hv, hg', hh, r⟩⟩ := h
  · exact ⟨h1, .inl h2⟩
  · exact ⟨h1, .inr ⟨g', cap, cur', hv, hg', hsetS_ne hh (fun e => by subst e; rw [hg] at hh; cases hh; exact hne rfl), r⟩⟩
theorem owns_mono {W : World} {base base' : Nat} {e : TypeId} {size : Nat} {v : Value} {n : Nat} {xs : List Value} (h : W.ownsRow base e size v n xs) (hb : base' ≤ base) : W.ownsRow base' e size v n xs := by
  obtain ⟨h1, h2 | ⟨g', cap, cur', hv, hg', r⟩⟩ := h
  · exact ⟨h1, .inl h2⟩
  · exact ⟨h1, .inr ⟨g', cap, cur', hv, Nat.le_trans hb hg', r⟩⟩

theorem own_but {W W' : World} {base base' : Nat} {e t : TypeId} {size : Nat} {v : Value} {n : Nat} {xs : List Value} (h : W.ownsRow base e size v n xs) {g : Nat} (hb : But (fun b => b = g) W W') {cur : Array Value} (hg : W.heap[g]? = some (.cells cur t (0, 0))) (hne : e ≠ t) (hbb : base' ≤ base) : W'.ownsRow base' e size v n xs := by
  obtain ⟨h1, h2 | ⟨g', cap, cur', hv, hg', hh, r⟩⟩ := h
  · exact ⟨h1, .inl h2⟩
  · exact ⟨h1, .inr ⟨g', cap, cur', hv, Nat.le_trans hbb hg', (hb.block g' (Array.getElem?_eq_some_iff.1 hh).1 (fun e => by subst e; rw [hg] at hh; cases hh; exact hne rfl)).trans hh, r⟩⟩

theorem bdB_size (c : Cg) (hc : c.wf) (s : ByteArray) (h : s.size ≤ 4096) : (bdB c s).size ≤ 60000000 := by
  unfold bdB
  have h1 := bdL_size c hc 4096 (lnsB s).length (lnsB s) rfl (fun x hx => by have := lnsF_mem _ s x hx; omega)
  have h2 := lnsF_len s.size s
  have h3 : (lnsB s).length ≤ 4096 := by unfold lnsB; omega
  exact Nat.le_trans h1 (Nat.le_trans (Nat.mul_le_mul_right _ h3) (by decide))

theorem wp_calmS {P : Program} {c : Code} {Q : Exit → Act → World → Prop} {a : Act} {w : World} (h : c.wp P (calmQ (Q .normal)) a w) : c.wp P Q a w := wp_mono h (fun e a w h => by obtain ⟨rfl, h⟩ := h; exact h)

/-- The message that is being made: its block, its body. -/
def NM14 (w : World) (gn : Nat) (st : ByteArray) (vh vb : Value) (nb : ByteArray) (W : World) : Prop :=
  w.heap.size ≤ gn ∧ W.heap[gn]? = some (.cells #[.string st, vh, vb] 25 (0, 0)) ∧ W.ownsRow w.heap.size 5 1 vb nb.size (nvs nb)

set_option maxRecDepth 100000 in
set_option maxHeartbeats 8000000 in
theorem message_any (c : Cg) (mv : Value) (st : ByteArray) (sv sb : Value) (hs : List Hr) (zb : List Int) (w : World) (hT : TabI w) (hM : TabM w) (hc : c.wf) (hI : RdP2 w.heap.size w mv c.media) (hH : RdM w.heap.size w sv hs) (hB : Rd w.heap.size w sb zb) (hz : zb.length ≤ 4096) (hhl : hs.length ≤ 64) (hhs : ∀ h ∈ hs, h.1.size ≤ 4096 ∧ h.2.size ≤ 4096) :
    Calls Tryd.prog 38 #[.agg #[.string c.host, .string c.is, .int .u16 c.port, .int .u16 c.np, mv], .agg #[.string st, sv, sb]] w fun e w' => Later w w' ∧ ∃ vh vb, e = .returned (.agg #[.string st, vh, vb]) ∧ w'.ownsRow w.heap.size 53 2 vh hs.length (hrs (mgH c (bdB c (strOfNums zb)).size hs)) ∧ w'.ownsRow w.heap.size 5 1 vb (bdB c (strOfNums zb)).size (nvs (bdB c (strOfNums zb))) := by
  obtain ⟨sa, scp, rfl, hsc1, hsc2⟩ := hH.slice
  have hb4 : Later w (((w.alloc (.cells #[.string c.host, .string c.is, .int .u16 c.port, .int .u16 c.np, mv] 94)).alloc (.cells #[.string st, .slice sa hs.length scp, sb] 25)).alloc (.cells #[.string ⟨#[]⟩, .slice none 0 0, .slice none 0 0] 25)) := (((Below.refl _ _).alloc (Nat.le_refl _) _).alloc (by simp) _).alloc (by simp <;> omega) _
  have c0 : (((w.alloc (.cells #[.string c.host, .string c.is, .int .u16 c.port, .int .u16 c.np, mv] 94)).alloc (.cells #[.string st, .slice sa hs.length scp, sb] 25)).alloc (.cells #[.string ⟨#[]⟩, .slice none 0 0, .slice none 0 0] 25)).heap[w.heap.size]? = some (.cells #[.string c.host, .string c.is, .int .u16 c.port, .int .u16 c.np, mv] 94) := (Below.heap_alloc _ _ _ (by simp <;> omega)).trans ((Below.heap_alloc _ _ _ (by simp)).trans (heap_alloc_new w _))
  have c1 : (((w.alloc (.cells #[.string c.host, .string c.is, .int .u16 c.port, .int .u16 c.np, mv] 94)).alloc (.cells #[.string st, .slice sa hs.length scp, sb] 25)).alloc (.cells #[.string ⟨#[]⟩, .slice none 0 0, .slice none 0 0] 25)).heap[w.heap.size + 1]? = some (.cells #[.string st, .slice sa hs.length scp, sb] 25) := by
    have := heap_alloc_new (w.alloc (.cells #[.string c.host, .string c.is, .int .u16 c.port, .int .u16 c.np, mv] 94)) (.cells #[.string st, .slice sa hs.length scp, sb] 25)
    rw [World.size_alloc] at this
    exact (Below.heap_alloc _ _ _ (by simp)).trans this
  have c2 : (((w.alloc (.cells #[.string c.host, .string c.is, .int .u16 c.port, .int .u16 c.np, mv] 94)).alloc (.cells #[.string st, .slice sa hs.length scp, sb] 25)).alloc (.cells #[.string ⟨#[]⟩, .slice none 0 0, .slice none 0 0] 25)).heap[w.heap.size + 1 + 1]? = some (.cells #[.string ⟨#[]⟩, .slice none 0 0, .slice none 0 0] 25) := by
    have := heap_alloc_new ((w.alloc (.cells #[.string c.host, .string c.is, .int .u16 c.port, .int .u16 c.np, mv] 94)).alloc (.cells #[.string st, .slice sa hs.length scp, sb] 25)) (.cells #[.string ⟨#[]⟩, .slice none 0 0, .slice none 0 0] 25)
    simpa only [World.size_alloc] using this
  have hs4 : (((w.alloc (.cells #[.string c.host, .string c.is, .int .u16 c.port, .int .u16 c.np, mv] 94)).alloc (.cells #[.string st, .slice sa hs.length scp, sb] 25)).alloc (.cells #[.string ⟨#[]⟩, .slice none 0 0, .slice none 0 0] 25)).heap.size = w.heap.size + 1 + 1 + 1 := by simp
  have C0 := hide c0
  have C1 := hide c1
  have C2 := hide c2
  have HS4 := hide hs4
  clear c0 c1 c2 hs4
  have hnbs := bdB_size c hc (strOfNums zb) (by rw [strOfNums_size]; exact hz)
  generalize hnb : bdB c (strOfNums zb) = nb at *
  have HNB := hide hnb
  clear hnb
  go_enter Tryd.func38, Tryd.ntmps38
  go_upto_region 1 with fail
  generalize ((w.alloc (.cells #[.string c.host, .string c.is, .int .u16 c.port, .int .u16 c.np, mv] 94)).alloc (.cells #[.string st, .slice sa hs.length scp, sb] 25)).alloc (.cells #[.string ⟨#[]⟩, .slice none 0 0, .slice none 0 0] 25) = w4 at *
  have hs4 : w4.heap.size = w.heap.size + 1 + 1 + 1 := HS4.out
  generalize hgc : w.heap.size = gc at *
  refine wp_mono (Q := fun e a' W => e = .normal ∧ ∃ gn vb, a' = { tmps := #[.agg #[.string c.host, .string c.is, .int .u16 c.port, .int .u16 c.np, mv], .agg #[.string st, .slice sa hs.length scp, sb], .pointer (some ⟨gc, 0, none⟩), .pointer (some ⟨gc + 1, 0, none⟩), .pointer (some ⟨gc + 1 + 1, 0, none⟩), .pointer (some ⟨gn, 0, none⟩), undef, undef, .pointer (some ⟨gc + 1, 0, none⟩), .string st, .agg #[.string c.host, .string c.is, .int .u16 c.port, .int .u16 c.np, mv], .pointer (some ⟨gc + 1, 2, none⟩), sb, vb, .agg #[.string st, .slice none 0 0, vb], undef, undef, undef, undef, undef, undef, undef, undef, undef, undef, undef, undef, undef, undef, undef, undef, undef, undef, undef, undef, undef, undef, undef], defers := [] } ∧ Later w4 W ∧ NM14 w4 gn st (.slice none 0 0) vb nb W) ?reg ?rest
  case reg =>
    refine anyU_begin (R1 := Later) (R2 := fun _ _ => True) (D := [8]) 9 rfl (by kernel_rfl) ?_
    have ld : Later w4 w4.drew := Later.drew w4
    generalize w4.drew = Wd at *
    have LWd : Later w Wd := Later.trans hb4 ld
    have qC : ∀ v1, Later Wd v1 → ∀ j, v1.cell? ⟨gc, j, none⟩ = #[.string c.host, .string c.is, .int .u16 c.port, .int .u16 c.np, mv][j]? := fun v1 hv => block_cell (later_keep (ld.trans hv) C0.out)
    have qM : ∀ v1, Later Wd v1 → ∀ j, v1.cell? ⟨gc + 1, j, none⟩ = #[.string st, .slice sa hs.length scp, sb][j]? := fun v1 hv => block_cell (later_keep (ld.trans hv) C1.out)
    refine anyU_val Later.pre 0 [1, 6, 8] rfl (by rfl) (by rfl) (by kernel_rfl) (by kernel_rfl) (by kernel_rfl) (by kernel_rfl) (by kernel_rfl) (fun _ _ _ _ h => by cases h.1) (by rfl) ?_; apply Exists.intro; refine ⟨fun v1 hv1 => ?_, ?_⟩; (· (go_simp; rfl)); simp only [Act.put, List.setIfInBounds_toArray, List.set_cons_zero, List.set_cons_succ]
    refine anyU_val Later.pre 1 [6, 8] rfl (by rfl) (by rfl) (by kernel_rfl) (by kernel_rfl) (by kernel_rfl) (by kernel_rfl) (by kernel_rfl) (fun _ _ _ _ h => by cases h.1) (by rfl) ?_; apply Exists.intro; refine ⟨fun v1 hv1 => ?_, ?_⟩; (· (go_simp; rfl)); simp only [Act.put, List.setIfInBounds_toArray, List.set_cons_zero, List.set_cons_succ]
    refine anyU_val Later.pre 2 [5, 6, 8] rfl (by rfl) (by rfl) (by kernel_rfl) (by kernel_rfl) (by kernel_rfl) (by kernel_rfl) (by kernel_rfl) (fun _ _ _ _ h => by cases h.1) (by rfl) ?_; apply Exists.intro; refine ⟨fun v1 hv1 => ?_, ?_⟩; (· (go_simp; rfl)); simp only [Act.put, List.setIfInBounds_toArray, List.set_cons_zero, List.set_cons_succ]
    refine anyU_val Later.pre 3 [4, 5, 6, 8] rfl (by rfl) (by rfl) (by kernel_rfl) (by kernel_rfl) (by kernel_rfl) (by kernel_rfl) (by kernel_rfl) (fun _ _ _ _ h => by cases h.1) (by rfl) ?_; apply Exists.intro; refine ⟨fun v1 hv1 => ?_, ?_⟩; (· (go_simp; rfl)); simp only [Act.put, List.setIfInBounds_toArray, List.set_cons_zero, List.set_cons_succ]
    refine anyU_val Later.pre 4 [5, 6, 8] rfl (by rfl) (by rfl) (by kernel_rfl) (by kernel_rfl) (by kernel_rfl) (by kernel_rfl) (by kernel_rfl) (fun _ _ _ _ h => by cases h.1) (by rfl) ?_; apply Exists.intro; refine ⟨fun v1 hv1 => ?_, ?_⟩; (· (go_simp; rfl)); simp only [Act.put, List.setIfInBounds_toArray, List.set_cons_zero, List.set_cons_succ]
    clear qC qM
    refine anyU_two 5 7 rfl rfl (by kernel_rfl) (by rfl) (by rfl) ?ca ?al
    case ca =>
      refine wp_enter 59 #[.agg #[.string c.host, .string c.is, .int .u16 c.port, .int .u16 c.np, mv], sb] (by go_simp) ?_
      refine (body_any c mv sb zb Wd (hT.later LWd) (hM.later LWd) hc ((show RdP2 w.heap.size w mv c.media from hgc ▸ hI).later LWd) ((show Rd w.heap.size w sb zb from hgc ▸ hB).later LWd) hz).mono ?_
      rintro e W1 ⟨l1, v, rfl, hrow⟩
      rw [HNB.out] at hrow
      obtain ⟨va, vc, rfl⟩ := owns_form hrow
      refine ⟨Rj_out (by rfl) l1, ?_⟩
      simp only [Act.put, List.setIfInBounds_toArray, List.set_cons_zero, List.set_cons_succ]
      refine anyU_val Later.pre 6 [8] rfl (by rfl) (by rfl) (by kernel_rfl) (by kernel_rfl) (by kernel_rfl) (by kernel_rfl) (by kernel_rfl) (fun _ _ _ _ h => by cases h.1) (by rfl) ?_; apply Exists.intro; refine ⟨fun v1 hv1 => ?_, ?_⟩; (· (go_simp; rfl)); simp only [Act.put, List.setIfInBounds_toArray, List.set_cons_zero, List.set_cons_succ]
      refine anyU_one 7 rfl (by kernel_rfl) (by rfl) ?_
      have la := later_allocR W1 (.cells #[.string ⟨#[]⟩, .slice none 0 0, .slice none 0 0] 25)
      have HA := heap_alloc_new W1 (.cells #[.string ⟨#[]⟩, .slice none 0 0, .slice none 0 0] 25)
      unfold Oper.wp
      go_simp
      refine ⟨Rj_out (by rfl) la, ?_⟩
      have hsg : w4.heap.size ≤ W1.heap.size := (ld.trans l1).size
      have LL := ld.trans (l1.trans la)
      change wpAnyU _ _ _ _ _ _ _ _ _ _ (W1.alloc (.cells #[.string ⟨#[]⟩, .slice none 0 0, .slice none 0 0] 25))
      generalize W1.alloc (.cells #[.string ⟨#[]⟩, .slice none 0 0, .slice none 0 0] 25) = W5 at *
      generalize W1.heap.size = gn at *
      have hrow5 := ownsS_ct hrow (CTs.of la)
      have kA := block_cell HA; have fA := block_frozen HA; refine anyU_one 8 rfl (by kernel_rfl) (by rfl) ?_; unfold Oper.wp; go_simp; refine ⟨Rj_in (by rfl) trivial, ?_⟩; clear kA fA; generalize hV : (((W5.setCell ⟨gn, 0, none⟩ _).setCell ⟨gn, 1, none⟩ _).setCell ⟨gn, 2, none⟩ _) = V8; have hV9 : V8 = putRow W5 gn 0 [.string st, .slice none 0 0, .slice va nb.size vc] := hV.symm; have hb8 : But (fun b => b = gn) W5 V8 := (by rw [hV9]; exact putRow_but (E := fun b => b = gn) (n := gn) rfl _ _ _ _ (But.refl _ _)); have p8 := putRow_all [.string st, .slice none 0 0, .slice va nb.size vc] HA rfl; rw [← hV9] at p8; clear hV hV9; refine anyU_done (by kernel_rfl) ?_; refine ⟨rfl, gn, .slice va nb.size vc, rfl, Below.trans LL (hb8.below LL.size (fun k h e => by omega)), hsg, p8, ?_⟩; refine own_but hrow5 hb8 HA (by decide) (by first | exact ld.size | exact (ld.trans la).size)
    case al =>
      have la := later_allocR Wd (.cells #[.string ⟨#[]⟩, .slice none 0 0, .slice none 0 0] 25)
      have HA0 := heap_alloc_new Wd (.cells #[.string ⟨#[]⟩, .slice none 0 0, .slice none 0 0] 25)
      unfold Oper.wp
      go_simp
      refine ⟨Rj_out (by rfl) la, ?_⟩
      have hsg : w4.heap.size ≤ Wd.heap.size := ld.size
      change wpAnyU _ _ _ _ _ _ _ _ _ _ (Wd.alloc (.cells #[.string ⟨#[]⟩, .slice none 0 0, .slice none 0 0] 25))
      generalize Wd.alloc (.cells #[.string ⟨#[]⟩, .slice none 0 0, .slice none 0 0] 25) = W3 at *
      generalize hgn : Wd.heap.size = gn at *
      have LW3 : Later w W3 := LWd.trans la
      refine anyU_one 5 rfl (by kernel_rfl) (by rfl) ?_
      refine wp_enter 59 #[.agg #[.string c.host, .string c.is, .int .u16 c.port, .int .u16 c.np, mv], sb] (by go_simp) ?_
      refine (body_any c mv sb zb W3 (hT.later LW3) (hM.later LW3) hc ((show RdP2 w.heap.size w mv c.media from hgc ▸ hI).later LW3) ((show Rd w.heap.size w sb zb from hgc ▸ hB).later LW3) hz).mono ?_
      rintro e W5 ⟨l1, v, rfl, hrow5⟩
      rw [HNB.out] at hrow5
      obtain ⟨va, vc, rfl⟩ := owns_form hrow5
      refine ⟨Rj_out (by rfl) l1, ?_⟩
      simp only [Act.put, List.setIfInBounds_toArray, List.set_cons_zero, List.set_cons_succ]
      refine anyU_val Later.pre 6 [8] rfl (by rfl) (by rfl) (by kernel_rfl) (by kernel_rfl) (by kernel_rfl) (by kernel_rfl) (by kernel_rfl) (fun _ _ _ _ h => by cases h.1) (by rfl) ?_; apply Exists.intro; refine ⟨fun v1 hv1 => ?_, ?_⟩; (· (go_simp; rfl)); simp only [Act.put, List.setIfInBounds_toArray, List.set_cons_zero, List.set_cons_succ]
      have HA := later_keep l1 HA0
      have LL := ld.trans (la.trans l1)
      have kA := block_cell HA; have fA := block_frozen HA; refine anyU_one 8 rfl (by kernel_rfl) (by rfl) ?_; unfold Oper.wp; go_simp; refine ⟨Rj_in (by rfl) trivial, ?_⟩; clear kA fA; generalize hV : (((W5.setCell ⟨gn, 0, none⟩ _).setCell ⟨gn, 1, none⟩ _).setCell ⟨gn, 2, none⟩ _) = V8; have hV9 : V8 = putRow W5 gn 0 [.string st, .slice none 0 0, .slice va nb.size vc] := hV.symm; have hb8 : But (fun b => b = gn) W5 V8 := (by rw [hV9]; exact putRow_but (E := fun b => b = gn) (n := gn) rfl _ _ _ _ (But.refl _ _)); have p8 := putRow_all [.string st, .slice none 0 0, .slice va nb.size vc] HA rfl; rw [← hV9] at p8; clear hV hV9; refine anyU_done (by kernel_rfl) ?_; refine ⟨rfl, gn, .slice va nb.size vc, rfl, Below.trans LL (hb8.below LL.size (fun k h e => by omega)), hsg, p8, ?_⟩; refine own_but hrow5 hb8 HA (by decide) (by first | exact ld.size | exact (ld.trans la).size)
  case rest =>
    rintro e a' W ⟨rfl, gn, vb, rfl, lW, hN⟩
    obtain ⟨hgn, hN1, hN2⟩ := hN
    have D0 := hide (later_keep lW C0.out)
    have D1 := hide (later_keep lW C1.out)
    have D2 := hide (later_keep lW C2.out)
    have LW : Later w W := Later.trans hb4 lW
    obtain ⟨va, vc, rfl⟩ := owns_form hN2
    have HN1 := hide hN1
    have HN2 := hide (owns_mono (base' := gc) hN2 (by omega))
    have LWg : Below gc w W := hgc ▸ LW
    have HH := hide (hH.below LWg)
    have hgn3 : gc + 3 ≤ gn := by omega
    clear hN1 hN2 C0 C1 C2 hgn
    dsimp only
    have k1 := block_cell D1.out
    generalize hnh : mgH c nb.size hs = mh at *
    go_upto_region 3 with fail
    clear k1
    go_loopw [18] (fun iv wr => ∃ (k : Nat) (vh : Value), k ≤ hs.length ∧ iv = .int .i64 (k : Int) ∧ Below gc W wr ∧ Hid (wr.heap[gc]? = some (.cells #[.string c.host, .string c.is, .int .u16 c.port, .int .u16 c.np, mv] 94 (0, 0))) ∧ Hid (wr.heap[gc + 1 + 1]? = some (.cells #[.string ⟨#[]⟩, .slice none 0 0, .slice none 0 0] 25 (0, 0))) ∧ Hid (wr.heap[gn]? = some (.cells #[.string st, vh, .slice va nb.size vc] 25 (0, 0))) ∧ Hid (wr.ownsRow gc 5 1 (.slice va nb.size vc) nb.size (nvs nb)) ∧ Hid (wr.ownsRow gc 53 2 vh k (hrs (mgH c nb.size (hs.take k))))) (fun iv _ => hs.length - (intOf iv).toNat)
    case atStart => exact ⟨0, .slice none 0 0, by omega, rfl, Below.refl _ _, D0, D2, HN1, HN2, rfl, .inl ⟨rfl, rfl⟩⟩
    case round =>
      obtain ⟨k, vh, hk, rfl, hbr, E0, E2, EN, EB, EH⟩ := hrel
      have LWr : Later w wr := by show Below w.heap.size w wr; rw [hgc]; exact LWg.trans hbr
      obtain ⟨ha, hcp, rfl⟩ := owns_form EH.out
      by_cases hlt : k < hs.length
      · have hlt' : (k : Int) < (hs.length : Int) := by omega
        obtain ⟨b, off, cp, e, _, _, hbn, hcs⟩ := ((HH.out).below hbr).cells (by omega)
        cases e
        have d0 := hcs k hlt 0 (by omega)
        have d1 := hcs k hlt 1 (by omega)
        have hsz := hhs hs[k] (List.getElem_mem hlt)
        have HTK := hide (mgH_take c nb.size hs k hlt)
        clear hcs
        generalize hs[k] = hk at *
        obtain ⟨n1, n2⟩ := hk
        simp only [hrc, List.getElem?_cons_zero, List.getElem?_cons_succ, Nat.add_zero] at d0 d1 HTK
        simp only at hsz
        have la := later_allocR wr (.cells #[.string n1, .string n2] 53)
        have HA := hide (heap_alloc_new wr (.cells #[.string n1, .string n2] 53))
        go_upto_region 5 with fail
        clear d0 d1
        generalize wr.alloc _ = wq at *
        generalize hgh : wr.heap.size = gh at *
        have hgcr : gc ≤ gh := by rw [← hgh, ← hgc]; exact LWr.size
        refine wp_calmS ?_
        refine anyU_begin (R1 := Later) (R2 := fun _ _ => True) (D := [12, 14]) 15 rfl (by kernel_rfl) ?_
        have ld : Later wq wq.drew := Later.drew wq
        generalize wq.drew = Wd at *
        have lq := la.trans ld
        have LWd : Later w Wd := LWr.trans lq
        have qC : ∀ v1, Later Wd v1 → ∀ j, v1.cell? ⟨gc, j, none⟩ = #[.string c.host, .string c.is, .int .u16 c.port, .int .u16 c.np, mv][j]? := fun v1 hv => block_cell (later_keep (lq.trans hv) E0.out)
        have qN : ∀ v1, Later Wd v1 → ∀ j, v1.cell? ⟨gn, j, none⟩ = #[.string st, .slice ha k hcp, .slice va nb.size vc][j]? := fun v1 hv => block_cell (later_keep (lq.trans hv) EN.out)
        have qH : ∀ v1, Later Wd v1 → ∀ j, v1.cell? ⟨gh, j, none⟩ = #[.string n1, .string n2][j]? := fun v1 hv => block_cell (later_keep (ld.trans hv) HA.out)
        refine anyU_val Later.pre 0 [1, 12, 14] rfl (by rfl) (by rfl) (by kernel_rfl) (by kernel_rfl) (by kernel_rfl) (by kernel_rfl) (by kernel_rfl) (fun _ _ _ _ h => by cases h.1) (by rfl) ?_; apply Exists.intro; refine ⟨fun v1 hv1 => ?_, ?_⟩; (· (go_simp; rfl)); simp only [Act.put, List.setIfInBounds_toArray, List.set_cons_zero, List.set_cons_succ]
        refine anyU_val Later.pre 1 [12, 14] rfl (by rfl) (by rfl) (by kernel_rfl) (by kernel_rfl) (by kernel_rfl) (by kernel_rfl) (by kernel_rfl) (fun _ _ _ _ h => by cases h.1) (by rfl) ?_; apply Exists.intro; refine ⟨fun v1 hv1 => ?_, ?_⟩; (· (go_simp; rfl)); simp only [Act.put, List.setIfInBounds_toArray, List.set_cons_zero, List.set_cons_succ]
        refine anyU_val Later.pre 2 [3, 10, 11, 12, 14] rfl (by rfl) (by rfl) (by kernel_rfl) (by kernel_rfl) (by kernel_rfl) (by kernel_rfl) (by kernel_rfl) (fun _ _ _ _ h => by cases h.1) (by rfl) ?_; apply Exists.intro; refine ⟨fun v1 hv1 => ?_, ?_⟩; (· (go_simp; rfl)); simp only [Act.put, List.setIfInBounds_toArray, List.set_cons_zero, List.set_cons_succ]
        refine anyU_val Later.pre 3 [10, 11, 12, 14] rfl (by rfl) (by rfl) (by kernel_rfl) (by kernel_rfl) (by kernel_rfl) (by kernel_rfl) (by kernel_rfl) (fun _ _ _ _ h => by cases h.1) (by rfl) ?_; apply Exists.intro; refine ⟨fun v1 hv1 => ?_, ?_⟩; (· (go_simp; rfl)); simp only [Act.put, List.setIfInBounds_toArray, List.set_cons_zero, List.set_cons_succ]
        refine anyU_val Later.pre 4 [9, 10, 11, 12, 14] rfl (by rfl) (by rfl) (by kernel_rfl) (by kernel_rfl) (by kernel_rfl) (by kernel_rfl) (by kernel_rfl) (fun _ _ _ _ h => by cases h.1) (by rfl) ?_; apply Exists.intro; refine ⟨fun v1 hv1 => ?_, ?_⟩; (· (go_simp; rfl)); simp only [Act.put, List.setIfInBounds_toArray, List.set_cons_zero, List.set_cons_succ]
        refine anyU_val Later.pre 5 [9, 10, 11, 12, 14] rfl (by rfl) (by rfl) (by kernel_rfl) (by kernel_rfl) (by kernel_rfl) (by kernel_rfl) (by kernel_rfl) (fun _ _ _ _ h => by cases h.1) (by rfl) ?_; apply Exists.intro; refine ⟨fun v1 hv1 => ?_, ?_⟩; (· (go_simp; rfl)); simp only [Act.put, List.setIfInBounds_toArray, List.set_cons_zero, List.set_cons_succ]
        refine anyU_val Later.pre 6 [7, 8, 9, 10, 11, 12, 14] rfl (by rfl) (by rfl) (by kernel_rfl) (by kernel_rfl) (by kernel_rfl) (by kernel_rfl) (by kernel_rfl) (fun _ _ _ _ h => by cases h.1) (by rfl) ?_; apply Exists.intro; refine ⟨fun v1 hv1 => ?_, ?_⟩; (· (go_simp; rfl)); simp only [Act.put, List.setIfInBounds_toArray, List.set_cons_zero, List.set_cons_succ]
        refine anyU_val Later.pre 7 [8, 9, 10, 11, 12, 14] rfl (by rfl) (by rfl) (by kernel_rfl) (by kernel_rfl) (by kernel_rfl) (by kernel_rfl) (by kernel_rfl) (fun _ _ _ _ h => by cases h.1) (by rfl) ?_; apply Exists.intro; refine ⟨fun v1 hv1 => ?_, ?_⟩; (· (go_simp; rfl)); simp only [Act.put, List.setIfInBounds_toArray, List.set_cons_zero, List.set_cons_succ]
        refine anyU_val Later.pre 8 [9, 10, 11, 12, 14] rfl (by rfl) (by rfl) (by kernel_rfl) (by kernel_rfl) (by kernel_rfl) (by kernel_rfl) (by kernel_rfl) (fun _ _ _ _ h => by cases h.1) (by rfl) ?_; apply Exists.intro; refine ⟨fun v1 hv1 => ?_, ?_⟩; (· (go_simp; rfl)); simp only [Act.put, List.setIfInBounds_toArray, List.set_cons_zero, List.set_cons_succ]
        clear qC qN qH
        refine anyU_one 9 rfl (by kernel_rfl) (by rfl) ?_
        refine wp_enter 60 #[.agg #[.string c.host, .string c.is, .int .u16 c.port, .int .u16 c.np, mv], .agg #[.string n1, .string n2], .int .i64 (nb.size : Int)] (by go_simp) ?_
        refine (value_any c mv n1 n2 nb.size Wd (hT.later LWd) (hM.later LWd) hc (by omega) (by omega) (by omega)).mono ?_
        rintro e W1 ⟨rfl, l1⟩
        generalize vuB c nb.size (n1, n2) = nv at *
        refine ⟨Rj_out (by rfl) l1, ?_⟩
        simp only [Act.put, List.setIfInBounds_toArray, List.set_cons_zero, List.set_cons_succ]
        refine anyU_val Later.pre 10 [11, 12, 14] rfl (by rfl) (by rfl) (by kernel_rfl) (by kernel_rfl) (by kernel_rfl) (by kernel_rfl) (by kernel_rfl) (fun _ _ _ _ h => by cases h.1) (by rfl) ?_; apply Exists.intro; refine ⟨fun v1 hv1 => ?_, ?_⟩; (· (go_simp; rfl)); simp only [Act.put, List.setIfInBounds_toArray, List.set_cons_zero, List.set_cons_succ]
        refine anyU_one 11 rfl (by kernel_rfl) (by rfl) ?_
        have l2 := later_allocR W1 (.cells #[.string n1, .string nv] 53)
        have HNW := hide (heap_alloc_new W1 (.cells #[.string n1, .string nv] 53))
        unfold Oper.wp
        go_simp
        refine ⟨Rj_out (by rfl) l2, ?_⟩
        change wpAnyU _ _ _ _ _ _ _ _ _ _ (W1.alloc (.cells #[.string n1, .string nv] 53))
        generalize W1.alloc (.cells #[.string n1, .string nv] 53) = W5 at *
        generalize W1.heap.size = gw at *
        have LL := lq.trans (l1.trans l2)
        have EH5 := ownsS_ct EH.out (CTs.of LL)
        have EB5 := ownsS_ct EB.out (CTs.of LL)
        have EN5 := later_keep LL EN.out
        have E05 := later_keep LL E0.out
        have E25 := later_keep LL E2.out
        have hnk := block_cell HNW.out
        obtain ⟨i0, hi0, hz0, hz1, hz2⟩ := info_partsS info_hdr
        have hgc5 : gc ≤ W5.heap.size := by have := LL.size; omega
        obtain ⟨v', W2, hrun, hrow, hg, _⟩ := run_append_own (P := Tryd.prog) W5 gc 23 23 53 i0 (.agg #[.string ⟨#[]⟩, .string ⟨#[]⟩]) 2 32 Tryd.underlying23 hi0 hz0 hz1 hz2 rfl (by decide) (.slice ha k hcp) k (hrs (mgH c nb.size (hs.take k))) EH5 ⟨gw, 0, none⟩ 1 1 [.string n1, .string nv] rfl
          (fun j u hj => by
            rw [show (⟨gw, 0, none⟩ : Addr).add j = ⟨gw, 0 + j, none⟩ from by unfold Addr.add; split <;> simp_all]
            rw [Nat.zero_add, hnk j, ← hj]; simp)
          (by intro u hu; simp at hu; rcases hu with rfl | rfl <;> rfl) (by unfold maxLen; omega) (by omega) hgc5
        clear hnk
        refine anyU_one 12 rfl (by kernel_rfl) (by rfl) ?_
        refine wp_app (.tmp 23) (.tmp 33) 23 rfl _ _ rfl rfl v' W2 hrun ?_
        refine ⟨Rj_in (by rfl) trivial, ?_⟩
        simp only [Act.put, List.setIfInBounds_toArray, List.set_cons_zero, List.set_cons_succ]
        obtain ⟨a2, cp2, rfl⟩ := owns_form hrow
        have EN2 := keep_row EH5 hg EN5 (.inl fun cur f e => by cases e)
        have E02 := keep_row EH5 hg E05 (.inl fun cur f e => by cases e)
        have E22 := keep_row EH5 hg E25 (.inl fun cur f e => by cases e)
        have EB2 := keep_own EH5 hg (by decide) EB5
        refine anyU_one 13 rfl (by kernel_rfl) (by rfl) ?_
        refine wp_value (w' := W2) (.pointer (some ⟨gn, 1, none⟩)) (by go_simp) ?_
        refine ⟨Rj_out (by rfl) (Later.refl _), ?_⟩
        simp only [Act.put, List.setIfInBounds_toArray, List.set_cons_zero, List.set_cons_succ]
        have k2 := block_cell EN2
        have f2 := block_frozen EN2
        refine anyU_one 14 rfl (by kernel_rfl) (by rfl) ?_
        unfold Oper.wp
        go_simp
        refine ⟨Rj_in (by rfl) trivial, ?_⟩
        clear k2 f2
        refine anyU_done (by kernel_rfl) ?_
        refine ⟨rfl, ?_⟩
        have EN8 := heap_set1 EN2 1 (.slice a2 (k + 1) cp2)
        have E08 := hsetS_ne (j := 1) (v := .slice a2 (k + 1) cp2) E02 (m := gn) (by intro e; rw [← e] at EN2; rw [E02] at EN2; cases EN2)
        have E28 := hsetS_ne (j := 1) (v := .slice a2 (k + 1) cp2) E22 (m := gn) (by omega)
        have EB8 := own_set EB2 EN2 (by decide) 1 (.slice a2 (k + 1) cp2)
        have EH8 := own_set hrow EN2 (by decide) 1 (.slice a2 (k + 1) cp2)
        have B8 : Below gc wr (W2.setCell ⟨gn, 1, none⟩ (.slice a2 (k + 1) cp2)) := ⟨hg.os.trans LL.os, hg.tape.trans LL.tape, hg.output.trans LL.output, by have := LL.size; have := hg.size; simp; omega, fun i hi => by
          cases hh : wr.heap[i]? with
          | none => have := Array.getElem?_eq_none_iff.1 hh; omega
          | some o => exact hsetS_ne (keep_row EH5 hg (later_keep LL hh) (.inr hi)) (by omega)⟩
        have EH9 : (W2.setCell ⟨gn, 1, none⟩ (.slice a2 (k + 1) cp2)).ownsRow gc 53 2 (.slice a2 (k + 1) cp2) (k + 1) (hrs (mgH c nb.size (hs.take (k + 1)))) := by
          rw [HTK.out, hrs_snoc]
          exact EH8
        have HE8 := hide E08; have HF8 := hide E28; have HG8 := hide EN8; have HB8 := hide EB8; have HH9 := hide EH9; have HBL := hide (hbr.trans B8)
        clear E08 E28 EN8 EB8 EH9 EH8 B8 hrow EB2 E22 E02 EN2 hg hrun E25 E05 EN5 EB5 EH5
        generalize W2.setCell ⟨gn, 1, none⟩ (.slice a2 (k + 1) cp2) = V8 at *
        go_wp2_with fail
        go_roundw
        case rel => exact ⟨k + 1, .slice a2 (k + 1) cp2, by omega, by go_num, HBL.out, HE8, HF8, HG8, HB8, HH9⟩
        case measure => simp [intOf]; omega
      · have hnl : ¬ (k : Int) < (hs.length : Int) := by omega
        have hkk : k = hs.length := by omega
        have HH9 : Hid (wr.ownsRow gc 53 2 (.slice ha k hcp) hs.length (hrs mh)) := by
          have := EH.out
          rw [hkk, List.take_length, hnh] at this
          rw [hkk]
          exact this
        clear hkk
        have k2 := block_cell EN.out
        have k4 := block_cell E2.out
        have f4 := block_frozen E2.out
        go_wp2_with fail
        generalize hV : (((wr.setCell ⟨gc + 1 + 1, 0, none⟩ _).setCell ⟨gc + 1 + 1, 1, none⟩ _).setCell ⟨gc + 1 + 1, 2, none⟩ _) = V8
        have hV9 : V8 = putRow wr (gc + 1 + 1) 0 [.string st, .slice ha k hcp, .slice va nb.size vc] := hV.symm
        have hb8 : But (fun b => b = gc + 1 + 1) wr V8 := by rw [hV9]; exact putRow_but (E := fun b => b = gc + 1 + 1) (n := gc + 1 + 1) rfl _ _ _ _ (But.refl _ _)
        have p8 := putRow_all [.string st, .slice ha k hcp, .slice va nb.size vc] E2.out rfl
        rw [← hV9] at p8
        clear hV hV9
        have P8 := block_cell p8
        have hw8 : Later w V8 := Below.trans LWr (hb8.below LWr.size (fun k h e => by omega))
        exact bodyPost_ret (v := .agg #[.string st, .slice ha k hcp, .slice va nb.size vc]) (by simp [results, Tryd.results38, go_sem, P8]) rfl ⟨hw8, _, _, rfl, own_but HH9.out hb8 E2.out (by decide) (Nat.le_refl _), own_but EB.out hb8 E2.out (by decide) (Nat.le_refl _)⟩
end Go.Proofs.YtehdgndbloaljaaDoor

/- Package ctrl: bytes of numbers, parts joined, bytes.Clone, the packet with bytes in it. -/
namespace Go.Proofs.YtehdgndbloaljaaDoor
open Go.RowKit Go.Shelf
set_option maxRecDepth 100000
set_option linter.unusedVariables false
set_option linter.unusedSimpArgs false

theorem make2 (w : World) : (Instr.makeSlice 22 (.int .i64 2) (.int .i64 2)).run Tryd.prog w = .ok (.slice (some ⟨w.heap.size, 0, none⟩) 2 2) (w.alloc (.cells #[.int .u8 0, .int .u8 0] 5)) := by kernel_rfl

theorem make4 (w : World) : (Instr.makeSlice 22 (.int .i64 4) (.int .i64 4)).run Tryd.prog w = .ok (.slice (some ⟨w.heap.size, 0, none⟩) 4 4) (w.alloc (.cells #[.int .u8 0, .int .u8 0, .int .u8 0, .int .u8 0] 5)) := by kernel_rfl

theorem eql_nil (w : World) : (binOp .eql 22 (.slice none 0 0) (.slice none 0 0)).run Tryd.prog w = .ok (.bool true) w := by kernel_rfl

theorem eql_some (w : World) (ad : Addr) (n c : Nat) : (binOp .eql 22 (.slice (some ad) n c) (.slice none 0 0)).run Tryd.prog w = .ok (.bool false) w := by kernel_rfl

set_option maxHeartbeats 1000000 in
/-- bytes.Clone. -/
theorem cloneb_any (sv : Value) (zs : List Int) (w : World) (hl : zs.length ≤ 140737488355328) (hI : Rd w.heap.size w sv zs) :
    Calls Tryd.prog 58 #[sv] w fun e w' => ∃ a cap, e = .returned (.slice a zs.length cap) ∧ Ow w.heap.size w' (.slice a zs.length cap) zs ∧ Below w.heap.size w w' := by
  obtain ⟨i0, hi, hz0, hz1, hz2⟩ := info_parts info_u8
  have hb0 : Below w.heap.size w (w.alloc (.cells #[] 5)) := (Below.refl _ w).alloc (Nat.le_refl _) _
  have hR1 := hI.below hb0
  obtain ⟨a, cap, rfl, hl1, hm1⟩ := hI.slice
  cases a with
  | none =>
    obtain ⟨rfl, rfl⟩ : zs = [] ∧ cap = 0 := by
      rcases hI with ⟨a, cap', e, hz, _, hn⟩ | ⟨_, _, _, e, _⟩
      · have e1 := e
        simp at e1
        obtain ⟨rfl, _, rfl⟩ := e1
        exact ⟨hz, hn rfl⟩
      · simp at e
    have hq := eql_nil w
    go_enter Tryd.func58, Tryd.ntmps58
    go_wp2
    go_ret
    exact ⟨none, 0, rfl, .inl ⟨rfl, rfl⟩, Below.refl _ _⟩
  | some ad =>
    have hq := eql_some w ad zs.length cap
    go_enter Tryd.func58, Tryd.ntmps58
    go_wp2_with (at_builtin; refine wpList_app _ rfl (.tmp 5) (.tmp 6) 22 rfl w.heap.size 5 i0 Tryd.underlying22 hi hz0 hz1 hz2 _ [] rfl (own_empty w _) w.heap.size _ zs rfl hR1 (by simp; omega) (by simp) ?_; intro v0 w0 hown0 hg0; have hbw0 := below_app hb0 (own_empty w _) hg0 (Nat.le_refl _) hb0.size; clear hg0; have hO0 := Ow.of_row hown0; clear hown0; simp only [List.nil_append] at hO0; obtain ⟨a0, cap0, rfl, hp0, hm0⟩ := hO0.slice)
    go_ret
    exact ⟨a0, cap0, rfl, hO0, hbw0⟩

/-- Slices that read as bytes, one by one. -/
def Rds (n₀ : Nat) (W : World) : List Value → List (List Int) → Prop
  | [], [] => True
  | v :: vs, z :: zs => Rd n₀ W v z ∧ Rds n₀ W vs zs
  | _, _ => False
theorem Rds.length {n₀ : Nat} {W : World} : ∀ {vs : List Value} {zs : List (List Int)}, Rds n₀ W vs zs → vs.length = zs.length
  | [], [], _ => rfl
  | _ :: _, _ :: _, h => by simp [h.2.length]
  | [], _ :: _, h => h.elim
  | _ :: _, [], h => h.elim
theorem Rds.at {n₀ : Nat} {W : World} : ∀ {vs : List Value} {zs : List (List Int)}, Rds n₀ W vs zs → ∀ j, j < vs.length → Rd n₀ W (vs[j]?.getD undef) (zs[j]?.getD [])
  | _ :: _, _ :: _, h, 0, _ => h.1
  | _ :: _, _ :: _, h, j + 1, hj => by simpa using h.2.at j (by simpa using hj)
  | [], _, _, _, hj => by simp at hj
  | _ :: _, [], h, _, _ => h.elim
theorem rows_of {W : World} {pb : Nat} {t : TypeId} {l : List Value} (h : W.heap[pb]? = some (.cells l.toArray t (0, 0))) : ∀ j, j < l.length → W.cell? ⟨pb, j, none⟩ = some (l[j]?.getD undef) := by
  intro j hj
  rw [block_cell h]
  simp [hj]

theorem heap_sets {W : World} {n : Nat} {t : TypeId} (v0 v1 v2 v3 v4 v5 v6 v7 v8 x4 x7 x8 : Value) (h : W.heap[n]? = some (.cells #[v0, v1, v2, v3, v4, v5, v6, v7, v8] t (0, 0))) :
    (((W.setCell ⟨n, 4, none⟩ x4).setCell ⟨n, 7, none⟩ x7).setCell ⟨n, 8, none⟩ x8).heap[n]? = some (.cells #[v0, v1, v2, v3, x4, v5, v6, x7, x8] t (0, 0)) := heap_set1 (heap_set1 (heap_set1 h 4 x4) 7 x7) 8 x8

/-- A packet's cells of zeros. -/
abbrev zcc : List Value := [.int .u8 0, .int .u16 0, .bool false, .int .u8 0, .int .u8 0, .int .u32 0, .int .u32 0, .slice none 0 0, .slice none 0 0]

end Go.Proofs.YtehdgndbloaljaaDoor

/- Package sip: a message with lists of its own; Rewrite. -/
namespace Go.Proofs.YtehdgndbloaljaaDoor
open Go.RowKit Go.Shelf
set_option maxRecDepth 100000
set_option linter.unusedVariables false
set_option linter.unusedSimpArgs false

theorem addr_addS (b off k : Nat) : (⟨b, off, none⟩ : Addr).add k = ⟨b, off + k, none⟩ := by unfold Addr.add; split <;> simp_all
theorem hrs_one (l : List Hr) : ∀ u ∈ hrs l, u.oneCell' = true := fun u hu => by
  obtain ⟨r, _, hr⟩ := List.mem_flatMap.1 hu
  simp only [hrc, List.mem_cons, List.not_mem_nil, or_false] at hr
  rcases hr with rfl | rfl <;> rfl

/-- All of a list appended onto one's own. -/
theorem appH (w : World) (ty : TypeId) (base n₀ : Nat) (v : Value) (xs : List Hr) (sv : Value) (ys : List Hr) (hown : w.ownsRow base 53 2 v xs.length (hrs xs)) (hI : RdM n₀ w sv ys) (hbase : base ≤ w.heap.size) (hs : xs.length + ys.length ≤ 10000) :
    ∃ v' w', (Builtin.append_ #[23, 23] ty #[v, sv]).run Tryd.prog w = .ok v' w' ∧ w'.ownsRow base 53 2 v' (xs ++ ys).length (hrs (xs ++ ys)) ∧ w.grownBy w' v.ownBlock ∧ (v'.ownBlock = v.ownBlock ∨ v'.ownBlock = some w.heap.size) := by
  obtain ⟨i0, hi0, hz0, hz1, hz2⟩ := info_partsS info_hdr
  rcases hI with ⟨a, cap, rfl, rfl, hcm, ha⟩ | ⟨b, off, cap, rfl, hne, hl, hm, hb, hc⟩
  · obtain ⟨av, cv, rfl, hv1, hv2⟩ := (ownM_rd hown).slice
    refine ⟨_, w, run_append_nothing w _ _ ty _ i0 Tryd.underlying23 hi0 av xs.length cv hv1 (.slice a 0 cap) ?_, by rw [List.append_nil]; exact hown, ⟨rfl, rfl, rfl, Nat.le_refl _, fun _ _ _ => rfl⟩, .inl rfl⟩
    refine ⟨.inl ⟨_, Tryd.underlying23⟩, fun w' => ?_, ?_, ?_, by simp, by simp⟩ <;> cases a <;> simp [Builtin.lenOf, Builtin.firstCells, go_sem]
  · have hp : 0 < ys.length := List.length_pos_iff.2 hne
    obtain ⟨g, cap', w', hr, h2, h3, h4, h5⟩ := run_append_lies (P := Tryd.prog) w 23 ty base 53 i0 _ 2 32 Tryd.underlying23 hi0 hz0 hz1 hz2 rfl (by decide) v xs.length (hrs xs) hown ⟨b, off, none⟩ ys.length cap (hrs ys) (hrs_length ys) (fun j u hj => by
      have hlt := (List.getElem?_eq_some_iff.1 hj).1
      rw [hrs_length] at hlt
      rw [addr_addS]
      have h1 := hc (j / 2) (by omega) (j % 2) (Nat.mod_lt _ (by omega))
      rw [← hrs_at ys (j / 2) (j % 2) (by omega) (Nat.mod_lt _ (by omega)), show j / 2 * 2 + j % 2 = j from by omega, hj] at h1
      rw [← h1]
      congr 2
      omega) (hrs_one ys) hp (by unfold maxLen; omega) (by omega) hbase _ rfl
    refine ⟨_, w', hr, by rw [List.length_append, hrs_append]; exact h2, h3, ?_⟩
    rcases h4 with h4 | h4
    · exact .inl (by rw [h4]; rfl)
    · exact .inr (by rw [h4]; rfl)

theorem wpList_appw {P : Program} {ops : Array Oper} {rest : List Oper} {o : Oper} {a : Act} {Q : Exit → Act → World → Prop} {w : World} (hg : o.guard = none) (s x : Operand) (t : TypeId) (hop : o.op = Op.call { callee := Callee.builtin Builtin.append, args := #[s, x], argTypes := #[t, t] })
    (v sx : Value) (hs : a.eval s = v) (hx : a.eval x = sx) (v' : Value) (w' : World) (hrun : (Builtin.append_ #[t, t] o.type #[v, sx]).run P w = .ok v' w') (hk : wpList P ops Q rest (a.put o.dst v') w') : wpList P ops Q (o :: rest) a w :=
  wpList_plain hg fun K hK => wp_app s x t hop v sx hs hx v' w' hrun (hK _ _ hk)
theorem ownM_made (w : World) : (w.alloc (.cells #[] 53)).ownsRow w.heap.size 53 2 (.slice (some ⟨w.heap.size, 0, none⟩) 0 0) ([] : List Hr).length (hrs []) :=
  ⟨rfl, .inr ⟨w.heap.size, 0, #[], rfl, Nat.le_refl _, heap_alloc_new w _, Nat.le_refl _, by unfold maxLen; omega, rfl, rfl⟩⟩
/-- A copy of a list in memory of its own. -/
theorem copyH (w : World) (ty : TypeId) (n₀ : Nat) (sv : Value) (ys : List Hr) (hI : RdM n₀ w sv ys) (hn : n₀ ≤ w.heap.size) (hs : ys.length ≤ 10000) :
    ∃ v' w', (Builtin.append_ #[23, 23] ty #[.slice (some ⟨w.heap.size, 0, none⟩) 0 0, sv]).run Tryd.prog (w.alloc (.cells #[] 53)) = .ok v' w' ∧ w'.ownsRow w.heap.size 53 2 v' ys.length (hrs ys) ∧ Later w w' := by
  have la : Later w (w.alloc (.cells #[] 53)) := (Below.refl _ _).alloc (Nat.le_refl _) _
  obtain ⟨v', w', h1, h2, h3, h4⟩ := appH (w.alloc (.cells #[] 53)) ty w.heap.size n₀ _ [] sv ys (ownM_made w) (hI.below (la.mono hn)) la.size (by simpa using hs)
  refine ⟨v', w', h1, by simpa using h2, ?_⟩
  exact Below.trans la ⟨h3.os, h3.tape, h3.output, h3.size, fun k hk => h3.block k (by simp; omega) (fun e => by simp [Value.ownBlock] at e; omega)⟩


set_option maxHeartbeats 2000000 in
theorem cloneH_any (v : Value) (l : List Hr) (w : World) (hI : RdM w.heap.size w v l) (hl : l.length ≤ 5000) :
    Calls Tryd.prog 57 #[v] w fun e w' => Later w w' ∧ ∃ v', e = .returned v' ∧ w'.ownsRow w.heap.size 53 2 v' l.length (hrs l) := by
  obtain ⟨u, W1, hrun, hrow, hlat⟩ := copyH w 23 w.heap.size v l hI (Nat.le_refl _) (by omega)
  obtain ⟨av, cv, rfl, _, _⟩ := hI.slice
  obtain ⟨au, cu, rfl⟩ := owns_form hrow
  have HRUN := hide hrun
  have HROW := hide hrow
  have HI := hide hI
  clear hrun hrow hI
  go_enter Tryd.func57, Tryd.ntmps57
  cases av with
  | none =>
    go_wp2_with fail
    rw [Go.Lib.run_eql_slice_nil _ _ _ _ _ _ _ _ Tryd.underlying23]
    go_wp2_with fail
    go_ret
    obtain rfl : l = [] := by
      rcases HI.out with ⟨_, _, _, e2, _⟩ | ⟨g2, off, cap2, e, _⟩
      · exact e2
      · cases e
    exact ⟨Later.refl _, _, rfl, rfl, .inl ⟨rfl, rfl⟩⟩
  | some a =>
    go_wp2_with fail
    rw [Go.Lib.run_eql_slice_nil _ _ _ _ _ _ _ _ Tryd.underlying23]
    go_wp2_with (at_builtin; refine wpList_appw rfl (.tmp 5) (.tmp 6) 23 rfl _ _ rfl rfl _ W1 HRUN.out ?_)
    go_ret
    exact ⟨hlat, _, rfl, HROW.out⟩

set_option maxRecDepth 100000 in
set_option maxHeartbeats 4000000 in
theorem own_any (st : ByteArray) (sv sb : Value) (hs : List Hr) (zb : List Int) (w : World) (hH : RdM w.heap.size w sv hs) (hB : Rd w.heap.size w sb zb) (hl : hs.length ≤ 5000) (hz : zb.length ≤ 140737488355328) :
    Calls Tryd.prog 37 #[.agg #[.string st, sv, sb]] w fun e w' => Later w w' ∧ ∃ vh vb, e = .returned (.agg #[.string st, vh, vb]) ∧ w'.ownsRow w.heap.size 53 2 vh hs.length (hrs hs) ∧ Ow w.heap.size w' vb zb := by
  obtain ⟨sa, scp, rfl, hsc1, hsc2⟩ := hH.slice
  obtain ⟨ba, bcp, rfl, hbc1, hbc2⟩ := hB.slice
  have hb4 : Later w ((w.alloc (.cells #[.string st, .slice sa hs.length scp, .slice ba zb.length bcp] 25)).alloc (.cells #[.string ⟨#[]⟩, .slice none 0 0, .slice none 0 0] 25)) := ((Below.refl _ _).alloc (Nat.le_refl _) _).alloc (by simp) _
  have C0 := hide (show ((w.alloc (.cells #[.string st, .slice sa hs.length scp, .slice ba zb.length bcp] 25)).alloc (.cells #[.string ⟨#[]⟩, .slice none 0 0, .slice none 0 0] 25)).heap[w.heap.size]? = some (.cells #[.string st, .slice sa hs.length scp, .slice ba zb.length bcp] 25 (0, 0)) from (Below.heap_alloc _ _ _ (by simp)).trans (heap_alloc_new w _))
  have C1 : Hid (((w.alloc (.cells #[.string st, .slice sa hs.length scp, .slice ba zb.length bcp] 25)).alloc (.cells #[.string ⟨#[]⟩, .slice none 0 0, .slice none 0 0] 25)).heap[w.heap.size + 1]? = some (.cells #[.string ⟨#[]⟩, .slice none 0 0, .slice none 0 0] 25 (0, 0))) := by
    have := heap_alloc_new (w.alloc (.cells #[.string st, .slice sa hs.length scp, .slice ba zb.length bcp] 25)) (.cells #[.string ⟨#[]⟩, .slice none 0 0, .slice none 0 0] 25)
    rw [World.size_alloc] at this
    exact this
  go_enter Tryd.func37, Tryd.ntmps37
  go_upto_region 1 with fail
  generalize (w.alloc (.cells #[.string st, .slice sa hs.length scp, .slice ba zb.length bcp] 25)).alloc (.cells #[.string ⟨#[]⟩, .slice none 0 0, .slice none 0 0] 25) = w4 at *
  generalize hgc : w.heap.size = gc at *
  refine wp_calmS ?_
  refine anyU_begin (R1 := Later) (R2 := fun _ _ => True) (D := [9]) 10 rfl (by kernel_rfl) ?_
  have ld : Later w4 w4.drew := Later.drew w4
  generalize w4.drew = Wd at *
  have LWd : Later w Wd := Later.trans hb4 ld
  have qM : ∀ v1, Later Wd v1 → ∀ j, v1.cell? ⟨gc, j, none⟩ = #[Value.string st, .slice sa hs.length scp, .slice ba zb.length bcp][j]? := fun v1 hv => block_cell (later_keep (ld.trans hv) C0.out)
  refine anyU_val Later.pre 0 [1, 8, 9] rfl (by rfl) (by rfl) (by kernel_rfl) (by kernel_rfl) (by kernel_rfl) (by kernel_rfl) (by kernel_rfl) (fun _ _ _ _ h => by cases h.1) (by rfl) ?_; apply Exists.intro; refine ⟨fun v1 hv1 => ?_, ?_⟩; (· (go_simp; rfl)); simp only [Act.put, List.setIfInBounds_toArray, List.set_cons_zero, List.set_cons_succ]
  refine anyU_val Later.pre 1 [8, 9] rfl (by rfl) (by rfl) (by kernel_rfl) (by kernel_rfl) (by kernel_rfl) (by kernel_rfl) (by kernel_rfl) (fun _ _ _ _ h => by cases h.1) (by rfl) ?_; apply Exists.intro; refine ⟨fun v1 hv1 => ?_, ?_⟩; (· (go_simp; rfl)); simp only [Act.put, List.setIfInBounds_toArray, List.set_cons_zero, List.set_cons_succ]
  refine anyU_val Later.pre 2 [3, 4, 7, 8, 9] rfl (by rfl) (by rfl) (by kernel_rfl) (by kernel_rfl) (by kernel_rfl) (by kernel_rfl) (by kernel_rfl) (fun _ _ _ _ h => by cases h.1) (by rfl) ?_; apply Exists.intro; refine ⟨fun v1 hv1 => ?_, ?_⟩; (· (go_simp; rfl)); simp only [Act.put, List.setIfInBounds_toArray, List.set_cons_zero, List.set_cons_succ]
  refine anyU_val Later.pre 3 [4, 7, 8, 9] rfl (by rfl) (by rfl) (by kernel_rfl) (by kernel_rfl) (by kernel_rfl) (by kernel_rfl) (by kernel_rfl) (fun _ _ _ _ h => by cases h.1) (by rfl) ?_; apply Exists.intro; refine ⟨fun v1 hv1 => ?_, ?_⟩; (· (go_simp; rfl)); simp only [Act.put, List.setIfInBounds_toArray, List.set_cons_zero, List.set_cons_succ]
  refine anyU_val Later.pre 5 [6, 7, 8, 9] rfl (by rfl) (by rfl) (by kernel_rfl) (by kernel_rfl) (by kernel_rfl) (by kernel_rfl) (by kernel_rfl) (fun _ _ _ _ h => by cases h.1) (by rfl) ?_; apply Exists.intro; refine ⟨fun v1 hv1 => ?_, ?_⟩; (· (go_simp; rfl)); simp only [Act.put, List.setIfInBounds_toArray, List.set_cons_zero, List.set_cons_succ]
  refine anyU_val Later.pre 6 [7, 8, 9] rfl (by rfl) (by rfl) (by kernel_rfl) (by kernel_rfl) (by kernel_rfl) (by kernel_rfl) (by kernel_rfl) (fun _ _ _ _ h => by cases h.1) (by rfl) ?_; apply Exists.intro; refine ⟨fun v1 hv1 => ?_, ?_⟩; (· (go_simp; rfl)); simp only [Act.put, List.setIfInBounds_toArray, List.set_cons_zero, List.set_cons_succ]
  clear qM
  refine anyU_one 4 rfl (by kernel_rfl) (by rfl) ?_
  refine wp_enter 57 #[.slice sa hs.length scp] (by go_simp) ?_
  refine (cloneH_any _ hs Wd ((show RdM w.heap.size w (.slice sa hs.length scp) hs from hgc ▸ hH).later LWd) hl).mono ?_
  rintro e W1 ⟨l1, v1, rfl, hrow1⟩
  obtain ⟨va, vc, rfl⟩ := owns_form hrow1
  refine ⟨Rj_out (by rfl) l1, ?_⟩
  simp only [Act.put, List.setIfInBounds_toArray, List.set_cons_zero, List.set_cons_succ]
  refine anyU_one 7 rfl (by kernel_rfl) (by rfl) ?_
  refine wp_enter 58 #[.slice ba zb.length bcp] (by go_simp) ?_
  refine (cloneb_any _ zb W1 hz ((show Rd w.heap.size w (.slice ba zb.length bcp) zb from hgc ▸ hB).later (LWd.trans l1))).mono ?_
  rintro e W5 ⟨xa, xc, rfl, hO, l2⟩
  have l2' : Later W1 W5 := l2
  refine ⟨Rj_out (by rfl) l2', ?_⟩
  simp only [Act.put, List.setIfInBounds_toArray, List.set_cons_zero, List.set_cons_succ]
  refine anyU_val Later.pre 8 [9] rfl (by rfl) (by rfl) (by kernel_rfl) (by kernel_rfl) (by kernel_rfl) (by kernel_rfl) (by kernel_rfl) (fun _ _ _ _ h => by cases h.1) (by rfl) ?_; apply Exists.intro; refine ⟨fun v1 hv1 => ?_, ?_⟩; (· (go_simp; rfl)); simp only [Act.put, List.setIfInBounds_toArray, List.set_cons_zero, List.set_cons_succ]
  have HA := later_keep (ld.trans (l1.trans l2')) C1.out
  have kA := block_cell HA
  have fA := block_frozen HA
  refine anyU_one 9 rfl (by kernel_rfl) (by rfl) ?_
  unfold Oper.wp
  go_simp
  refine ⟨Rj_in (by rfl) trivial, ?_⟩
  clear kA fA
  generalize hV : (((W5.setCell ⟨gc + 1, 0, none⟩ _).setCell ⟨gc + 1, 1, none⟩ _).setCell ⟨gc + 1, 2, none⟩ _) = V8
  have hV9 : V8 = putRow W5 (gc + 1) 0 [.string st, .slice va hs.length vc, .slice xa zb.length xc] := hV.symm
  have hb8 : But (fun b => b = gc + 1) W5 V8 := by rw [hV9]; exact putRow_but (E := fun b => b = gc + 1) (n := gc + 1) rfl _ _ _ _ (But.refl _ _)
  have p8 := putRow_all [.string st, .slice va hs.length vc, .slice xa zb.length xc] HA rfl
  rw [← hV9] at p8
  clear hV hV9
  refine anyU_done (by kernel_rfl) ?_
  refine ⟨rfl, ?_⟩
  have LL := LWd.trans (l1.trans l2')
  have hw8 : Later w V8 := Below.trans LL (hb8.below LL.size (fun k h e => by omega))
  have hr8 := own_but (base' := gc) (ownsS_ct hrow1 (CTs.of l2')) hb8 HA (by decide) (by rw [← hgc]; exact LWd.size)
  have hO8 : Ow gc V8 (.slice xa zb.length xc) zb := (hO.but hb8 (fun b h e => by have := (Array.getElem?_eq_some_iff.1 (later_keep (ld.trans l1) C1.out)).1; omega)).mono (by rw [← hgc]; exact (LWd.trans l1).size)
  have P8 := block_cell p8
  go_wp2_with fail
  exact bodyPost_ret (v := .agg #[.string st, .slice va hs.length vc, .slice xa zb.length xc]) (by simp [results, Tryd.results37, go_sem, P8]) rfl ⟨hw8, _, _, rfl, (by rw [hgc]; exact hr8), (by rw [hgc]; exact hO8)⟩
end Go.Proofs.YtehdgndbloaljaaDoor

/- Package sip: Rewrite. -/
namespace Go.Proofs.YtehdgndbloaljaaDoor
open Go.RowKit Go.Shelf
set_option maxRecDepth 100000
set_option linter.unusedVariables false
set_option linter.unusedSimpArgs false

/-- An address as a text. -/
def adB (a : Int) : ByteArray := rowB tDot (ad4 a)
def cgOf (h t p q : Int) (ml : List (Int × Int)) : Cg := ⟨adB h, adB t, p, q, ml⟩
/-- May a message be changed? -/
def rwOk (c : Cg) (st : ByteArray) (hs : List Hr) (zb : List Int) : Bool := rgB st hs zb.length && rgB st (mgH c (bdB c (strOfNums zb)).size hs) (bdB c (strOfNums zb)).size
def rwHs (c : Cg) (st : ByteArray) (hs : List Hr) (zb : List Int) : List Hr := if rwOk c st hs zb = true then mgH c (bdB c (strOfNums zb)).size hs else hs
def rwZb (c : Cg) (st : ByteArray) (hs : List Hr) (zb : List Int) : List Int := if rwOk c st hs zb = true then nmsB (bdB c (strOfNums zb)) else zb
theorem adB_size (a : Int) (h : 0 ≤ a ∧ a ≤ 4294967295) : (adB a).size ≤ 24 := Nat.le_trans (rowB_size tDot (ad4 a) (ad4_by a h)) (by simp [ad4, tDot, ByteArray.size])
theorem decB_len (n : Nat) (h : n < 10 ^ 20) : (decB n).size ≤ 20 := by
  have := nDig_le 20 n h (by omega)
  unfold decB
  simpa [ByteArray.size] using this
theorem wiB_size (c : Cg) (hc : c.wf) (v m e : ByteArray) : (wiB c v m e).size ≤ 3 * v.size + m.size + 2000 := by
  have h1 := cut_size v m
  unfold wiB
  split
  · omega
  · have h2 := plB_size c hc ((cutZ v m).extract 0 (endP e (cutZ v m)))
    simp only [ByteArray.size_append, ByteArray.size_extract] at h2 ⊢
    omega
theorem vuB_size (c : Cg) (hc : c.wf) (n : Nat) (hn : n < 10 ^ 20) (h : Hr) : (vuB c n h).size ≤ 3 * h.2.size + 2020 := by
  unfold vuB
  split
  · have := wiB_size c hc h.2 mkV enV; have e : mkV.size = 12 := rfl; omega
  split
  · have := wiB_size c hc h.2 mkC enK; have e : mkC.size = 1 := rfl; omega
  split
  · have := decB_len n hn; omega
  · omega
theorem mgH_hsz (c : Cg) (hc : c.wf) (n : Nat) (hn : n < 10 ^ 20) (hs : List Hr) : hsz (mgH c n hs) ≤ 3 * hsz hs + 2020 * hs.length := by
  induction hs with
  | nil => exact Nat.le_refl _
  | cons h t ih =>
    have := vuB_size c hc n hn h
    unfold mgH hsz at ih ⊢
    simp only [List.map_cons, List.sum_cons, List.length_cons] at ih ⊢
    omega
theorem rgB_facts {st : ByteArray} {hs : List Hr} {n : Nat} (h : rgB st hs n = true) : hs.length ≤ 64 ∧ n ≤ 4096 ∧ st.size ≤ 4096 ∧ hsz hs ≤ 4096 ∧ (∀ x ∈ hs, x.1.size ≤ 4096 ∧ x.2.size ≤ 4096) := by
  unfold rgB rhB szM at h
  simp only [Bool.and_eq_true, decide_eq_true_eq] at h
  obtain ⟨_, _, ⟨h1, _⟩, h2⟩ := h
  exact ⟨h1, by omega, by omega, by omega, fun x hx => by have := hsz_mem hx; omega⟩

set_option maxRecDepth 100000 in
set_option maxHeartbeats 8000000 in
theorem rewrite14_any (h t p q : Int) (ml : List (Int × Int)) (mv : Value) (st : ByteArray) (sv sb : Value) (hs : List Hr) (zb : List Int) (w : World) (hT : TabI w) (hM : TabM w) (hh : 0 ≤ h ∧ h ≤ 4294967295) (ht : 0 ≤ t ∧ t ≤ 4294967295) (hc : (cgOf h t p q ml).wf) (hI : RdP2 w.heap.size w mv ml) (hH : RdM w.heap.size w sv hs) (hB : Rd w.heap.size w sb zb) (hzl : zb.length ≤ 140737488355328) (hhl : hs.length ≤ 5000) (hz : szM st hs zb.length ≤ 9000000000000000000) :
    Calls Tryd.prog 19 #[.agg #[.string st, sv, sb], .int .u32 h, .int .u32 t, .int .u16 p, .int .u16 q, mv] w fun e w' => Later w w' ∧ ∃ vh vb, e = .returned (.agg #[.string st, vh, vb]) ∧ w'.ownsRow w.heap.size 53 2 vh (rwHs (cgOf h t p q ml) st hs zb).length (hrs (rwHs (cgOf h t p q ml) st hs zb)) ∧ Ow w.heap.size w' vb (rwZb (cgOf h t p q ml) st hs zb) := by
  obtain ⟨sa, scp, rfl, hsc1, hsc2⟩ := hH.slice
  obtain ⟨ba, bcp, rfl, hbc1, hbc2⟩ := hB.slice
  obtain ⟨ma, mc, rfl, hmc1, hmc2⟩ := hI.slice
  have hb4 : Later w ((w.alloc (.cells #[.string st, .slice sa hs.length scp, .slice ba zb.length bcp] 25)).alloc (.cells #[.string ⟨#[]⟩, .slice none 0 0, .slice none 0 0] 25)) := ((Below.refl _ _).alloc (Nat.le_refl _) _).alloc (by simp) _
  have C0 := hide (show ((w.alloc (.cells #[.string st, .slice sa hs.length scp, .slice ba zb.length bcp] 25)).alloc (.cells #[.string ⟨#[]⟩, .slice none 0 0, .slice none 0 0] 25)).heap[w.heap.size]? = some (.cells #[.string st, .slice sa hs.length scp, .slice ba zb.length bcp] 25 (0, 0)) from (Below.heap_alloc _ _ _ (by simp)).trans (heap_alloc_new w _))
  have C1 : Hid (((w.alloc (.cells #[.string st, .slice sa hs.length scp, .slice ba zb.length bcp] 25)).alloc (.cells #[.string ⟨#[]⟩, .slice none 0 0, .slice none 0 0] 25)).heap[w.heap.size + 1]? = some (.cells #[.string ⟨#[]⟩, .slice none 0 0, .slice none 0 0] 25 (0, 0))) := by
    have := heap_alloc_new (w.alloc (.cells #[.string st, .slice sa hs.length scp, .slice ba zb.length bcp] 25)) (.cells #[.string ⟨#[]⟩, .slice none 0 0, .slice none 0 0] 25)
    rw [World.size_alloc] at this
    exact this
  have HRH : Hid (rwHs (cgOf h t p q ml) st hs zb = if rwOk (cgOf h t p q ml) st hs zb = true then mgH (cgOf h t p q ml) (bdB (cgOf h t p q ml) (strOfNums zb)).size hs else hs) := rfl
  have HRZ : Hid (rwZb (cgOf h t p q ml) st hs zb = if rwOk (cgOf h t p q ml) st hs zb = true then nmsB (bdB (cgOf h t p q ml) (strOfNums zb)) else zb) := rfl
  have HOK : Hid (rwOk (cgOf h t p q ml) st hs zb = (rgB st hs zb.length && rgB st (mgH (cgOf h t p q ml) (bdB (cgOf h t p q ml) (strOfNums zb)).size hs) (bdB (cgOf h t p q ml) (strOfNums zb)).size)) := rfl
  generalize rwHs (cgOf h t p q ml) st hs zb = rh at *
  generalize rwZb (cgOf h t p q ml) st hs zb = rz at *
  generalize rwOk (cgOf h t p q ml) st hs zb = ok at *
  have HRG := hide (fun W (l : Later w W) => right14_any st hs (.slice sa hs.length scp) (.slice ba zb.length bcp) zb W (hT.later l) (hH.later l) (hB.later l) hz)
  have HF : Hid (rgB st hs zb.length = true → hs.length ≤ 64 ∧ zb.length ≤ 4096 ∧ st.size ≤ 4096 ∧ hsz hs ≤ 4096 ∧ (∀ x ∈ hs, x.1.size ≤ 4096 ∧ x.2.size ≤ 4096)) := fun h => rgB_facts h
  generalize rgB st hs zb.length = b1 at *
  go_enter Tryd.func19, Tryd.ntmps19
  go_upto_region 1 with fail
  generalize (w.alloc (.cells #[.string st, .slice sa hs.length scp, .slice ba zb.length bcp] 25)).alloc (.cells #[.string ⟨#[]⟩, .slice none 0 0, .slice none 0 0] 25) = w4 at *
  generalize hgc : w.heap.size = gc at C0 C1 ⊢
  have k0 := block_cell C0.out
  go_wp2_with fail
  refine (HRG.out w4 hb4).mono ?_
  rintro e w5 ⟨rfl, l5⟩
  clear k0
  have L5 := Later.trans hb4 l5
  cases b1 with
  | false =>
    have HRH2 := HRH; have HRZ2 := HRZ
    have hok : ok = false := HOK.out
    have L52 := l5
    replace HRH : Hid (rh = hs) := by have := HRH2.out; rw [hok] at this; exact this
    replace HRZ : Hid (rz = zb) := by have := HRZ2.out; rw [hok] at this; exact this
    have kM := block_cell (later_keep (L52) C0.out)
    go_wp2_with fail
    refine (own_any st _ _ hs zb w5 (hH.later L5) (hB.later L5) (by omega) hzl).mono ?_
    rintro e W9 ⟨l9, vh, vb, rfl, hr9, hO9⟩
    obtain ⟨va, vc, rfl⟩ := owns_form hr9
    obtain ⟨xa, xc, rfl, _, _⟩ := hO9.slice
    clear kM
    have HA := later_keep ((L52).trans l9) C1.out
    have kA := block_cell HA
    have fA := block_frozen HA
    have LL := (L5).trans l9
    go_wp2_with fail
    generalize hV : (((W9.setCell ⟨gc + 1, 0, none⟩ _).setCell ⟨gc + 1, 1, none⟩ _).setCell ⟨gc + 1, 2, none⟩ _) = V8
    have hV9 : V8 = putRow W9 (gc + 1) 0 [.string st, .slice va hs.length vc, .slice xa zb.length xc] := hV.symm
    have hb8 : But (fun b => b = gc + 1) W9 V8 := by rw [hV9]; exact putRow_but (E := fun b => b = gc + 1) (n := gc + 1) rfl _ _ _ _ (But.refl _ _)
    have p8 := putRow_all [.string st, .slice va hs.length vc, .slice xa zb.length xc] HA rfl
    rw [← hV9] at p8
    clear hV hV9
    have P8 := block_cell p8
    have hw8 : Later w V8 := Below.trans LL (hb8.below (LL).size (fun k h e => by omega))
    have hr8 := own_but (base' := w.heap.size) hr9 hb8 HA (by decide) (L5).size
    have hO8 : Ow w.heap.size V8 (.slice xa zb.length xc) zb := (hO9.but hb8 (fun b h e => by have := (Array.getElem?_eq_some_iff.1 (later_keep (L52) C1.out)).1; omega)).mono (L5).size
    exact bodyPost_ret (v := .agg #[.string st, .slice va hs.length vc, .slice xa zb.length xc]) (by simp [results, Tryd.results19, go_sem, P8]) rfl ⟨hw8, _, _, rfl, (by rw [HRH.out]; exact hr8), (by rw [HRZ.out]; exact hO8)⟩
  | true =>
    obtain ⟨hf1, hf2, hf3, hf4, hf5⟩ := HF.out rfl
    have HA1 := hide (fun W (l : Later w W) => address_any h hh W (hT.later l))
    have HA2 := hide (fun W (l : Later w W) => address_any t ht W (hT.later l))
    have HMG := hide (fun W (l : Later w W) => message_any (cgOf h t p q ml) (.slice ma ml.length mc) st (.slice sa hs.length scp) (.slice ba zb.length bcp) hs zb W (hT.later l) (hM.later l) hc (hI.later l) (hH.later l) (hB.later l) hf2 hf1 hf5)
    have hnbs := bdB_size (cgOf h t p q ml) hc (strOfNums zb) (by rw [strOfNums_size]; exact hf2)
    have hmh := mgH_hsz (cgOf h t p q ml) hc (bdB (cgOf h t p q ml) (strOfNums zb)).size (by omega) hs
    have hml : (mgH (cgOf h t p q ml) (bdB (cgOf h t p q ml) (strOfNums zb)).size hs).length = hs.length := by unfold mgH; simp
    have HML := hide hml
    clear hml
    have HMG2 : Hid (∀ W, Later w W → Calls Tryd.prog 38 #[.agg #[.string (rowB tDot (ad4 h)), .string (rowB tDot (ad4 t)), .int .u16 p, .int .u16 q, .slice ma ml.length mc], .agg #[.string st, .slice sa hs.length scp, .slice ba zb.length bcp]] W fun e w' => Later W w' ∧ ∃ vh vb, e = .returned (.agg #[.string st, vh, vb]) ∧ w'.ownsRow W.heap.size 53 2 vh hs.length (hrs (mgH (cgOf h t p q ml) (bdB (cgOf h t p q ml) (strOfNums zb)).size hs)) ∧ w'.ownsRow W.heap.size 5 1 vb (bdB (cgOf h t p q ml) (strOfNums zb)).size (nvs (bdB (cgOf h t p q ml) (strOfNums zb)))) := HMG.out
    clear HMG
    generalize mgH (cgOf h t p q ml) (bdB (cgOf h t p q ml) (strOfNums zb)).size hs = mh at *
    generalize bdB (cgOf h t p q ml) (strOfNums zb) = nb at *
    generalize rowB tDot (ad4 h) = ra at *
    generalize rowB tDot (ad4 t) = rb at *
    go_wp2_with fail
    refine (HA1.out w5 L5).mono ?_
    rintro e w6 ⟨rfl, l6⟩
    have l6' : Later w5 w6 := l6
    go_wp2_with fail
    refine (HA2.out w6 (L5.trans l6')).mono ?_
    rintro e w7 ⟨rfl, l7⟩
    have l7' : Later w6 w7 := l7
    have L7 := L5.trans (l6'.trans l7')
    have K7 := l5.trans (l6'.trans l7')
    clear HA1 HA2 l6 l7
    have la := later_allocR w7 (.cells #[.string ra, .string rb, .int .u16 p, .int .u16 q, .slice ma ml.length mc] 94)
    have CG := hide (heap_alloc_new w7 (.cells #[.string ra, .string rb, .int .u16 p, .int .u16 q, .slice ma ml.length mc] 94))
    go_upto_region 4 with fail
    generalize w7.alloc _ = w8 at *
    generalize w7.heap.size = gg at *
    have L8 := L7.trans la
    have K8 := K7.trans la
    have kG := block_cell CG.out
    have kM := block_cell (later_keep K8 C0.out)
    go_wp2_with fail
    refine (HMG2.out w8 L8).mono ?_
    rintro e w9 ⟨l9, vh, vb, rfl, hrH, hrB⟩
    obtain ⟨va, vc, rfl⟩ := owns_form hrH
    obtain ⟨xa, xc, rfl⟩ := owns_form hrB
    clear kG kM
    have L9 := L8.trans l9
    have K9 := K8.trans l9
    have lb := later_allocR w9 (.cells #[.string st, .slice va hs.length vc, .slice xa nb.size xc] 25)
    have CN := hide (heap_alloc_new w9 (.cells #[.string st, .slice va hs.length vc, .slice xa nb.size xc] 25))
    have hrH2 := hrH
    rw [← HML.out] at hrH2
    have hH9 := hide (ownM_rd hrH2)
    rw [HML.out] at hH9
    have hO9 : Ow w8.heap.size w9 (.slice xa nb.size xc) (nmsB nb) := Ow.of_row hrB
    go_upto_region 5 with fail
    have hH10 := hide (hH9.out.later lb)
    have hO10 := hide (hO9.rd.later lb)
    have hr10 := hide (owns_mono (base' := w.heap.size) (ownsS_ct hrH (CTs.of lb)) L8.size)
    have hb10 := hide (owns_mono (base' := w.heap.size) (ownsS_ct hrB (CTs.of lb)) L8.size)
    have L10 := L9.trans lb
    have K10 := K9.trans lb
    clear hH9 hO9 hrH hrB hrH2
    generalize w9.alloc _ = w10 at *
    generalize w9.heap.size = gz at *
    have kN := block_cell CN.out
    go_wp2_with fail
    have hnl : (nmsB nb).length = nb.size := nmsB_len nb
    have HR2 := hide (right14_any st mh (.slice va hs.length vc) (.slice xa nb.size xc) (nmsB nb) w10 (hT.later L10) hH10.out hO10.out (by unfold szM; rw [hnl]; omega))
    rw [hnl] at HR2
    clear hnl
    refine HR2.out.mono ?_
    rintro e w11 ⟨rfl, l11⟩
    clear kN HR2
    have L11 := L10.trans l11
    have K11 := K10.trans l11
    cases hr2 : rgB st mh nb.size with
    | true =>
      have hok : ok = true := by rw [HOK.out, hr2]; rfl
      replace HRH : Hid (rh = mh) := by have := HRH.out; rw [hok] at this; exact this
      replace HRZ : Hid (rz = nmsB nb) := by have := HRZ.out; rw [hok] at this; exact this
      clear hok hr2
      have hr11 := hide (ownsS_ct hr10.out (CTs.of l11))
      have hb11 := hide (ownsS_ct hb10.out (CTs.of l11))
      have kN := block_cell (later_keep l11 CN.out)
      have HA := later_keep K11 C1.out
      have kA := block_cell HA
      have fA := block_frozen HA
      go_wp2_with fail
      generalize hV : (((w11.setCell ⟨gc + 1, 0, none⟩ _).setCell ⟨gc + 1, 1, none⟩ _).setCell ⟨gc + 1, 2, none⟩ _) = V8
      have hV9 : V8 = putRow w11 (gc + 1) 0 [.string st, .slice va hs.length vc, .slice xa nb.size xc] := hV.symm
      have hb8 : But (fun b => b = gc + 1) w11 V8 := by rw [hV9]; exact putRow_but (E := fun b => b = gc + 1) (n := gc + 1) rfl _ _ _ _ (But.refl _ _)
      have p8 := putRow_all [.string st, .slice va hs.length vc, .slice xa nb.size xc] HA rfl
      rw [← hV9] at p8
      clear hV hV9
      have P8 := block_cell p8
      have hw8 : Later w V8 := Below.trans L11 (hb8.below (L11).size (fun k h e => by omega))
      have hr8 := own_but (base' := w.heap.size) hr11.out hb8 HA (by decide) (Nat.le_refl _)
      have hb8' := own_but (base' := w.heap.size) hb11.out hb8 HA (by decide) (Nat.le_refl _)
      exact bodyPost_ret (v := .agg #[.string st, .slice va hs.length vc, .slice xa nb.size xc]) (by simp [results, Tryd.results19, go_sem, P8]) rfl ⟨hw8, _, _, rfl, (by rw [HRH.out, HML.out]; exact hr8), (by rw [HRZ.out]; exact Ow.of_row hb8')⟩
    | false =>
      have hok : ok = false := by rw [HOK.out, hr2]; rfl
      have HRH2 := HRH; have HRZ2 := HRZ
      replace HRH : Hid (rh = hs) := by have := HRH2.out; rw [hok] at this; exact this
      replace HRZ : Hid (rz = zb) := by have := HRZ2.out; rw [hok] at this; exact this
      clear hok hr2 HRH2 HRZ2
      have L112 := K11
      have kM := block_cell (later_keep (L112) C0.out)
      go_wp2_with fail
      refine (own_any st _ _ hs zb w11 (hH.later L11) (hB.later L11) (by omega) hzl).mono ?_
      rintro e W9 ⟨l9, vh, vb, rfl, hr9, hO9⟩
      obtain ⟨va, vc, rfl⟩ := owns_form hr9
      obtain ⟨xa, xc, rfl, _, _⟩ := hO9.slice
      clear kM
      have HA := later_keep ((L112).trans l9) C1.out
      have kA := block_cell HA
      have fA := block_frozen HA
      have LL := (L11).trans l9
      go_wp2_with fail
      generalize hV : (((W9.setCell ⟨gc + 1, 0, none⟩ _).setCell ⟨gc + 1, 1, none⟩ _).setCell ⟨gc + 1, 2, none⟩ _) = V8
      have hV9 : V8 = putRow W9 (gc + 1) 0 [.string st, .slice va hs.length vc, .slice xa zb.length xc] := hV.symm
      have hb8 : But (fun b => b = gc + 1) W9 V8 := by rw [hV9]; exact putRow_but (E := fun b => b = gc + 1) (n := gc + 1) rfl _ _ _ _ (But.refl _ _)
      have p8 := putRow_all [.string st, .slice va hs.length vc, .slice xa zb.length xc] HA rfl
      rw [← hV9] at p8
      clear hV hV9
      have P8 := block_cell p8
      have hw8 : Later w V8 := Below.trans LL (hb8.below (LL).size (fun k h e => by omega))
      have hr8 := own_but (base' := w.heap.size) hr9 hb8 HA (by decide) (L11).size
      have hO8 : Ow w.heap.size V8 (.slice xa zb.length xc) zb := (hO9.but hb8 (fun b h e => by have := (Array.getElem?_eq_some_iff.1 (later_keep (L112) C1.out)).1; omega)).mono (L11).size
      exact bodyPost_ret (v := .agg #[.string st, .slice va hs.length vc, .slice xa zb.length xc]) (by simp [results, Tryd.results19, go_sem, P8]) rfl ⟨hw8, _, _, rfl, (by rw [HRH.out]; exact hr8), (by rw [HRZ.out]; exact hO8)⟩
end Go.Proofs.YtehdgndbloaljaaDoor

/- How arguments of package sip's laws read: messages, changes. -/
namespace Go.Proofs.YtehdgndbloaljaaDoor
open Go.ChangeShapes Go.WideShapes Go.ChangeAt Go.RowKit Go.Joins
set_option maxRecDepth 100000
set_option linter.unusedVariables false
set_option linter.unusedSimpArgs false

theorem arr3s {α : Type} {l : Array α} (h : l.size = 3) : ∃ a b c, l = #[a, b, c] := by
  obtain ⟨l⟩ := l
  match l, h with
  | [a, b, c], _ => exact ⟨a, b, c, rfl⟩
theorem lst3s {α : Type} {l : List α} (h : l.length = 3) : ∃ a b c, l = [a, b, c] := by
  match l, h with
  | [a, b, c], _ => exact ⟨a, b, c, rfl⟩
theorem arr5s {α : Type} {l : Array α} (h : l.size = 5) : ∃ a b c d e, l = #[a, b, c, d, e] := by
  obtain ⟨l⟩ := l
  match l, h with
  | [a, b, c, d, e], _ => exact ⟨a, b, c, d, e, rfl⟩
theorem lst5s {α : Type} {l : List α} (h : l.length = 5) : ∃ a b c d e, l = [a, b, c, d, e] := by
  match l, h with
  | [a, b, c, d, e], _ => exact ⟨a, b, c, d, e, rfl⟩
theorem wAll_at {H : Type} (P : Program) (e : TypeId) : ∀ (l : List (DataW H)), (DataW.weightsAll P e l).all (· ≤ reachBytes) = true → ∀ d ∈ l, (d.weights P e).all (· ≤ reachBytes) = true
  | [], _, d, hd => by cases hd
  | x :: r, h, d, hd => by
    simp only [DataW.weightsAll, List.all_append, Bool.and_eq_true] at h
    rcases List.mem_cons.1 hd with rfl | hd
    · exact h.1
    · exact wAll_at P e r h.2 d hd

/-- A field that is a slice of headers. -/
theorem open_headers {H : Type} {enc : TypeId × Value → H} {W : World} {n : Nat} {c : Value} {y : DataW H × List MemPlace} (h : DataW.trod enc Tryd.prog W 0 (fun _ => true) true n 23 [c] = some y) :
    ∃ hs : List Hr, RdM W.heap.size W c hs ∧ ((DataW.weights Tryd.prog 23 y.1).all (· ≤ reachBytes) = true → (∀ o ∈ hs, o.1.size ≤ 140737488351232 ∧ o.2.size ≤ 140737488351232) ∧ hs.length ≤ 140737488351232) := by
  rcases Go.Deep.open_slice_pairs Tryd.underlying23 Tryd.underlying53 (by kernel_rfl) rfl rfl (by kernel_rfl) (by kernel_rfl) h with ⟨hcs, _⟩ | ⟨a, len, cap, m, n', V0, V1, D0, D1, P0, P1, hcs, _, hl, hm, hmm, hx, hall⟩
  · simp at hcs
    subst hcs
    exact ⟨([] : List Hr), .inl ⟨none, 0, rfl, rfl, by omega, fun _ => rfl⟩, fun _ => ⟨fun o ho => (nomatch ho), by simp⟩⟩
  · simp at hcs
    subst hcs
    rw [if_pos rfl] at hmm
    obtain rfl : cap = m := hmm.symm
    have hm' : cap ≤ 9223372036854775807 := by simpa [maxLen] using hm
    have each : ∀ i, ∃ o : Hr, i < cap → (V0 i = .string o.1 ∧ V1 i = .string o.2 ∧ ((DataW.weights Tryd.prog 9 (D0 i)).all (· ≤ reachBytes) = true → o.1.size ≤ 140737488351232) ∧ ((DataW.weights Tryd.prog 9 (D1 i)).all (· ≤ reachBytes) = true → o.2.size ≤ 140737488351232)) := by
      intro i
      by_cases hi : i < cap
      · obtain ⟨_, _, g0, g1⟩ := hall i hi
        obtain ⟨s0, e0, x0, _⟩ := DataW.trod_string Tryd.underlying9 g0
        obtain ⟨s1, e1, x1, _⟩ := DataW.trod_string Tryd.underlying9 g1
        simp at e0 e1
        simp only [Prod.mk.injEq] at x0 x1
        refine ⟨(s0, s1), fun _ => ⟨e0, e1, fun hw => ?_, fun hw => ?_⟩⟩
        · rw [x0.1] at hw
          simp only [DataW.weights, List.all_cons, List.all_nil, Bool.and_true, decide_eq_true_eq, reachBytes, Array.length_toList] at hw
          exact of_decide_eq_true hw
        · rw [x1.1] at hw
          simp only [DataW.weights, List.all_cons, List.all_nil, Bool.and_true, decide_eq_true_eq, reachBytes, Array.length_toList] at hw
          exact of_decide_eq_true hw
      · exact ⟨(⟨#[]⟩, ⟨#[]⟩), fun h => absurd h hi⟩
    obtain ⟨O, hO⟩ := Classical.axiomOfChoice each
    refine ⟨(List.range len).map O, ?_, fun hw => ?_⟩
    · by_cases h0 : len = 0
      · subst h0
        exact .inl ⟨_, cap, rfl, rfl, hm', fun h => by cases h⟩
      · obtain ⟨b, off, spot⟩ := a
        have hc := (hall 0 (by omega)).1
        have hspot : spot = none := by simpa [Addr.add] using World.cell?_spot hc
        subst hspot
        refine .inr ⟨b, off, cap, by simp, by intro e; have := congrArg List.length e; simp at this; omega, by simp; omega, hm', ?_, fun j hj i hi => ?_⟩
        · have := World.block_lt_of_cell? W _ hc
          simpa [Addr.add] using this
        · have hj' : j < len := by simpa using hj
          obtain ⟨h1, h2, _, _⟩ := hall j (by omega)
          have hOj := hO j (by omega)
          rw [addr_addS] at h1 h2
          rw [hOj.1] at h1
          rw [hOj.2.1] at h2
          have hg : ((List.range len).map O)[j] = O j := by simp
          rw [hg]
          rcases (by omega : i = 0 ∨ i = 1) with rfl | rfl
          · exact h1
          · exact h2
    · rw [hx] at hw
      simp only [DataW.weights, Tryd.underlying23, List.all_cons, List.all_append, Bool.and_eq_true, decide_eq_true_eq] at hw
      obtain ⟨hw1, hw2, _⟩ := hw
      refine ⟨fun o ho => ?_, ?_⟩
      · obtain ⟨i, hi, rfl⟩ := List.mem_map.1 ho
        have hi' := List.mem_range.1 hi
        have h2 := wAll_at Tryd.prog 53 _ hw2 (.agg [D0 i, D1 i]) (List.mem_map.2 ⟨i, hi, rfl⟩)
        simp only [DataW.weights, Tryd.underlying53, DataW.weightsEach, List.map_cons, List.map_nil, List.all_append, Bool.and_eq_true] at h2
        have hOi := hO i (by omega)
        exact ⟨hOi.2.2.1 (by simp_all), hOi.2.2.2 (by simp_all)⟩
      · have hb : Tryd.prog.bytesOf 53 = 32 := by kernel_rfl
        rw [hb] at hw1
        simp only [List.length_map, List.length_range, reachBytes] at hw1 ⊢
        omega

/-- A message, by value. -/
theorem open_message {H : Type} {enc : TypeId × Value → H} {W : World} {r : Reach} {b0 : Nat} {v : Value} {d : DataW H} {p : List MemPlace} (hv : Value.okWide Tryd.prog W r b0 25 v) (h : DataW.Trod enc Tryd.prog W 0 (fun _ => true) true 25 v d p) :
    ∃ (st : ByteArray) (sv sb : Value) (hs : List Hr) (zb : List Int), v = .agg #[.string st, sv, sb] ∧ Mt.By zb ∧ RdM W.heap.size W sv hs ∧ Rd W.heap.size W sb zb ∧
      ((DataW.weights Tryd.prog 25 d).all (· ≤ reachBytes) = true → st.size ≤ 140737488351232 ∧ (∀ o ∈ hs, o.1.size ≤ 140737488351232 ∧ o.2.size ≤ 140737488351232) ∧ hs.length ≤ 140737488351232 ∧ zb.length ≤ 140737488351232) := by
  obtain ⟨cs, rfl, hsz⟩ := okWide_struct Tryd.underlying25 hv
  obtain ⟨c0, c1, c2, rfl⟩ := arr3s (hsz.trans (by kernel_rfl))
  obtain ⟨fuel, hf⟩ := h
  obtain ⟨xs, n, _, hx, _, hlen, hfs⟩ := DataW.trod_struct Tryd.underlying25 hf
  obtain ⟨y0, y1, y2, rfl⟩ := lst3s hlen
  have k1 : Tryd.prog.cellsOf 9 = 1 := by kernel_rfl
  have k2 : Tryd.prog.cellsOf 23 = 1 := by kernel_rfl
  have k5 : Tryd.prog.cellsOf 22 = 1 := by kernel_rfl
  have f0 := hfs 0 _ rfl
  have f1 := hfs 1 _ rfl
  have f2 := hfs 2 _ rfl
  simp [Value.cells, k1, k2, k5] at f0 f1 f2
  obtain ⟨st, e0, x0, _⟩ := DataW.trod_string Tryd.underlying9 f0
  obtain ⟨hs, hI, hwh⟩ := open_headers f1
  obtain ⟨zb, hB, hId, hwd⟩ := open_bytes f2
  simp at e0
  subst e0
  simp only [Prod.mk.injEq] at hx
  refine ⟨st, c1, c2, hs, zb, rfl, hB, hI, hId, fun hw => ?_⟩
  rw [hx.1] at hw
  simp only [DataW.weights, Tryd.underlying25, DataW.weightsEach, List.map_cons, List.map_nil, List.all_append, Bool.and_eq_true] at hw
  have g1 := hwh (by simp_all)
  have g2 := hwd (by simp_all)
  refine ⟨?_, g1.1, g1.2, g2⟩
  have hw0 : (DataW.weights Tryd.prog 9 y0.1).all (· ≤ reachBytes) = true := by simp_all
  rw [show y0.1 = _ from congrArg Prod.fst x0] at hw0
  simp only [DataW.weights, List.all_cons, List.all_nil, Bool.and_true, decide_eq_true_eq, reachBytes, Array.length_toList] at hw0
  exact of_decide_eq_true hw0

/-- A field that is a slice of media. -/
theorem open_medias {H : Type} {enc : TypeId × Value → H} {W : World} {n : Nat} {c : Value} {y : DataW H × List MemPlace} (h : DataW.trod enc Tryd.prog W 0 (fun _ => true) true n 92 [c] = some y) :
    ∃ l : List (Int × Int), RdP2 W.heap.size W c l ∧ (∀ m ∈ l, (0 ≤ m.1 ∧ m.1 ≤ 65535) ∧ (0 ≤ m.2 ∧ m.2 ≤ 65535)) ∧ ((DataW.weights Tryd.prog 92 y.1).all (· ≤ reachBytes) = true → l.length ≤ 140737488351232) := by
  rcases Go.Deep.open_slice_pairs Tryd.underlying92 Tryd.underlying57 (by kernel_rfl) rfl rfl (by kernel_rfl) (by kernel_rfl) h with ⟨hcs, _⟩ | ⟨a, len, cap, m, n', V0, V1, D0, D1, P0, P1, hcs, _, hl, hm, hmm, hx, hall⟩
  · simp at hcs
    subst hcs
    exact ⟨([] : List (Int × Int)), .inl ⟨none, 0, rfl, rfl, by omega⟩, fun o ho => (nomatch ho), fun _ => by simp⟩
  · simp at hcs
    subst hcs
    rw [if_pos rfl] at hmm
    obtain rfl : cap = m := hmm.symm
    have hm' : cap ≤ 9223372036854775807 := by simpa [maxLen] using hm
    have each : ∀ i, ∃ o : Int × Int, i < cap → (V0 i = .int .u16 o.1 ∧ V1 i = .int .u16 o.2 ∧ (0 ≤ o.1 ∧ o.1 ≤ 65535) ∧ (0 ≤ o.2 ∧ o.2 ≤ 65535)) := by
      intro i
      by_cases hi : i < cap
      · obtain ⟨_, _, g0, g1⟩ := hall i hi
        obtain ⟨s0, e0, _, w0⟩ := DataW.trod_int Tryd.underlying47 g0
        obtain ⟨s1, e1, _, w1⟩ := DataW.trod_int Tryd.underlying47 g1
        simp at e0 e1
        exact ⟨(s0, s1), fun _ => ⟨e0, e1, by simpa [Lit.wf, IntKind.min, IntKind.max, IntKind.signed, IntKind.bits] using w0, by simpa [Lit.wf, IntKind.min, IntKind.max, IntKind.signed, IntKind.bits] using w1⟩⟩
      · exact ⟨(0, 0), fun h => absurd h hi⟩
    obtain ⟨O, hO⟩ := Classical.axiomOfChoice each
    refine ⟨(List.range len).map O, ?_, fun o ho => ?_, fun hw => ?_⟩
    · by_cases h0 : len = 0
      · subst h0
        exact .inl ⟨_, cap, rfl, rfl, hm'⟩
      · obtain ⟨b, off, spot⟩ := a
        have hc := (hall 0 (by omega)).1
        have hspot : spot = none := by simpa [Addr.add] using World.cell?_spot hc
        subst hspot
        refine .inr ⟨b, off, cap, by simp, by intro e; have := congrArg List.length e; simp at this; omega, by simp; omega, hm', ?_, fun j hj => ?_⟩
        · have := World.block_lt_of_cell? W _ hc
          simpa [Addr.add] using this
        · have hj' : j < len := by simpa using hj
          obtain ⟨h1, h2, _, _⟩ := hall j (by omega)
          have hOj := hO j (by omega)
          rw [addr_addS] at h1 h2
          rw [hOj.1] at h1
          rw [hOj.2.1] at h2
          have hg : ((List.range len).map O)[j] = O j := by simp
          rw [hg]
          exact ⟨h1, h2⟩
    · obtain ⟨i, hi, rfl⟩ := List.mem_map.1 ho
      have := hO i (by have := List.mem_range.1 hi; omega)
      exact this.2.2
    · rw [hx] at hw
      simp only [DataW.weights, Tryd.underlying92, List.all_cons, List.all_append, Bool.and_eq_true, decide_eq_true_eq] at hw
      have hw1 := hw.1
      have hb : Tryd.prog.bytesOf 57 = 4 := by kernel_rfl
      rw [hb] at hw1
      simp only [List.length_map, List.length_range, reachBytes] at hw1 ⊢
      omega

end Go.Proofs.YtehdgndbloaljaaDoor

/- Numbers as text, and a message that is changed to the same. -/
namespace Go.Proofs.YtehdgndbloaljaaDoor
open Go.RowKit Go.Shelf
set_option maxRecDepth 100000
set_option linter.unusedVariables false
set_option linter.unusedSimpArgs false
theorem dgt_rng {c : Int} (h : dgt c = true) : 48 ≤ c ∧ c ≤ 57 := by unfold dgt at h; simpa using h
theorem strOf_at (l : List Int) (hl : Mt.By l) (i : Nat) (h : i < l.length) : bAt (strOfNums l) i = l[i]?.getD 0 := by
  have hs : i < (strOfNums l).size := by rw [strOfNums_size]; exact h
  have hb := hl l[i] (List.getElem_mem h)
  unfold bAt
  rw [List.getElem?_eq_getElem h]
  simp only [Option.getD_some, ByteArray.get!, strOfNums]
  rw [getElem!_pos _ i (by simpa using h)]
  simp
  omega
/-- A number's digits. -/
def dg (n : Nat) : List Int := nmsB (decB n)
theorem dg_eq (n : Nat) : dg n = (Lib.decDigits n).map fun b => (b.toNat : Int) := rfl
theorem dg_small {n : Nat} (h : n < 10) : dg n = [48 + (n : Int)] := by
  rw [dg_eq, Lib.decDigits, dif_pos h]
  simp
  omega
theorem dg_big {n : Nat} (h : 10 ≤ n) : dg n = dg (n / 10) ++ [48 + ((n % 10 : Nat) : Int)] := by
  rw [dg_eq, Lib.decDigits, dif_neg (by omega), List.map_append, ← dg_eq]
  simp
  omega
theorem dg_pos (n : Nat) : 0 < (dg n).length := by
  by_cases h : n < 10
  · rw [dg_small h]; simp
  · rw [dg_big (by omega)]; simp
theorem dg_dgt : ∀ (n : Nat), ∀ z ∈ dg n, dgt z = true := by
  intro n
  induction n using Nat.strongRecOn with
  | ind n ih =>
    intro z hz
    by_cases h : n < 10
    · rw [dg_small h] at hz
      simp at hz
      subst hz
      unfold dgt
      simp
      omega
    · rw [dg_big (by omega)] at hz
      rcases List.mem_append.1 hz with hz | hz
      · exact ih (n / 10) (by omega) z hz
      · simp only [List.mem_singleton] at hz
        subst hz
        unfold dgt
        simp
        omega
theorem nmsB_at (s : ByteArray) (i : Nat) (h : i < s.size) : bAt s i = (nmsB s)[i]?.getD 0 := by
  unfold bAt nmsB
  have h' : i < s.data.toList.length := by rw [Array.length_toList]; exact h
  rw [List.getElem?_map, List.getElem?_eq_getElem h']
  simp only [Option.map_some, Option.getD_some, ByteArray.get!]
  rw [getElem!_pos s.data i h]
  simp
theorem nmsB_str (l : List Int) (h : Mt.By l) : nmsB (strOfNums l) = l := by
  apply List.ext_getElem?
  intro i
  by_cases hi : i < l.length
  · have hs : i < (strOfNums l).size := by rw [strOfNums_size]; exact hi
    have h1 := strOf_at l h i hi
    rw [nmsB_at _ _ hs] at h1
    have h2 : i < (nmsB (strOfNums l)).length := by rw [nmsB_len]; exact hs
    rw [List.getElem?_eq_getElem h2, List.getElem?_eq_getElem hi] at h1 ⊢
    simp only [Option.getD_some] at h1
    rw [h1]
  · rw [List.getElem?_eq_none (l := nmsB (strOfNums l)) (by rw [nmsB_len, strOfNums_size]; omega), List.getElem?_eq_none (by omega)]
theorem str_nmsB (s : ByteArray) : strOfNums (nmsB s) = s := by
  cases s with
  | mk d =>
    unfold strOfNums nmsB
    congr 1
    rw [List.map_map]
    have : ((fun n : Int => UInt8.ofNat n.toNat) ∘ fun b : UInt8 => (b.toNat : Int)) = id := by
      funext b
      simp
    rw [this]
    simp
theorem numP_step {s : ByteArray} {most : Int} {pos : Nat} {n : Int} (h : pos < s.size) (hd : dgt (bAt s pos) = true) (h0 : ¬ (0 < pos ∧ n = 0)) (hm : n * 10 + (bAt s pos - 48) ≤ most) :
    numP s most (s.size - pos) pos n = numP s most (s.size - (pos + 1)) (pos + 1) (n * 10 + (bAt s pos - 48)) := by
  rw [show s.size - pos = (s.size - (pos + 1)) + 1 by omega]
  show (if _ then _ else if _ then _ else if _ then _ else _) = _
  rw [if_neg (by rw [hd]; simp), if_neg h0, if_neg (by omega)]
theorem take_at {l : List Int} {k i : Nat} {r : List Int} (h : l.take k = r) (hi : i < r.length) : l[i]?.getD 0 = r[i]?.getD 0 := by
  have hk : i < k := by rw [← h, List.length_take] at hi; omega
  rw [← h, List.getElem?_take, if_pos hk]
theorem reads_dg (s : ByteArray) (most : Int) : ∀ n : Nat, (nmsB s).take (dg n).length = dg n → (n : Int) ≤ most → numP s most s.size 0 0 = numP s most (s.size - (dg n).length) (dg n).length n := by
  intro n
  induction n using Nat.strongRecOn with
  | ind n ih =>
    intro h hm
    have hsz : (dg n).length ≤ s.size := by
      have := congrArg List.length h
      rw [List.length_take, nmsB_len] at this
      omega
    by_cases hn : n < 10
    · have hl : (dg n).length = 1 := by rw [dg_small hn]; rfl
      have h0 := take_at h (i := 0) (by omega)
      rw [← nmsB_at _ _ (by omega), dg_small hn] at h0
      simp only [List.getElem?_cons_zero, Option.getD_some] at h0
      rw [hl]
      have := numP_step (s := s) (most := most) (pos := 0) (n := 0) (by omega) (by rw [h0]; unfold dgt; simp; omega) (by omega) (by rw [h0]; omega)
      rw [Nat.sub_zero, h0] at this
      rw [this]
      congr 1
      omega
    · have hb := dg_big (n := n) (by omega)
      have hl : (dg n).length = (dg (n / 10)).length + 1 := by rw [hb, List.length_append]; rfl
      have h1 : (nmsB s).take (dg (n / 10)).length = dg (n / 10) := by
        have h2 := congrArg (List.take (dg (n / 10)).length) h
        rw [List.take_take, Nat.min_eq_left (by omega)] at h2
        rw [h2, hb, List.take_left]
      rw [ih (n / 10) (by omega) h1 (by omega)]
      have h0 := take_at h (i := (dg (n / 10)).length) (by omega)
      rw [← nmsB_at _ _ (by omega)] at h0
      have h3 : (dg n)[(dg (n / 10)).length]?.getD 0 = 48 + ((n % 10 : Nat) : Int) := by
        rw [hb, List.getElem?_append_right (Nat.le_refl _)]
        simp
      rw [h3] at h0
      have := numP_step (s := s) (most := most) (pos := (dg (n / 10)).length) (n := ((n / 10 : Nat) : Int)) (by omega) (by rw [h0]; unfold dgt; simp; omega) (by omega) (by rw [h0]; omega)
      rw [this, h0, hl]
      congr 1
      omega
theorem numV_dg (n : Nat) (most : Int) (h : (n : Int) ≤ most) : numV (decB n) most = some (n : Int) := by
  unfold numV
  have hs : (decB n).size = (dg n).length := (nmsB_len _).symm
  have hp := dg_pos n
  rw [if_neg (by omega), reads_dg (decB n) most n (by show (dg n).take _ = _; rw [List.take_length]) h, hs, Nat.sub_self]
  rfl
theorem numP_dg (s : ByteArray) (most : Int) : ∀ k pos n v, numP s most k pos n = some v → pos + k = s.size → 0 ≤ n → ((pos = 0 ∧ n = 0) ∨ (0 < pos ∧ (nmsB s).take pos = dg n.toNat)) → 0 < s.size → nmsB s = dg v.toNat ∧ 0 ≤ v
  | 0, pos, n, v, h, hk, hn, hi, hs => by
    have e : n = v := by simpa [numP] using h
    subst e
    rcases hi with ⟨h1, _⟩ | ⟨_, h2⟩
    · omega
    · rw [List.take_of_length_le (by rw [nmsB_len]; omega)] at h2
      exact ⟨h2, hn⟩
  | k + 1, pos, n, v, h, hk, hn, hi, hs => by
    have hu : numP s most (k + 1) pos n = if dgt (bAt s pos) = false then none else if 0 < pos ∧ n = 0 then none else if most < n * 10 + (bAt s pos - 48) then none else numP s most k (pos + 1) (n * 10 + (bAt s pos - 48)) := rfl
    rw [hu] at h
    split at h
    · cases h
    rename_i hd
    split at h
    · cases h
    rename_i h0
    split at h
    · cases h
    have hd' : dgt (bAt s pos) = true := by simpa using hd
    have hr := dgt_rng hd'
    refine numP_dg s most k (pos + 1) _ v h (by omega) (by omega) (.inr ⟨by omega, ?_⟩) hs
    have hlt : pos < (nmsB s).length := by rw [nmsB_len]; omega
    have hc : (nmsB s)[pos]'hlt = bAt s pos := by rw [nmsB_at _ _ (by omega), List.getElem?_eq_getElem hlt]; rfl
    rw [List.take_succ_eq_append_getElem hlt, hc]
    rcases hi with ⟨rfl, rfl⟩ | ⟨hp, ht⟩
    · rw [List.take_zero, dg_small (by omega)]
      simp
      omega
    · have hn0 : 0 < n := by
        rcases Int.lt_or_eq_of_le hn with h | h
        · exact h
        · exact absurd ⟨hp, h.symm⟩ h0
      rw [ht, dg_big (n := (n * 10 + (bAt s pos - 48)).toNat) (by omega)]
      have e1 : (n * 10 + (bAt s pos - 48)).toNat / 10 = n.toNat := by omega
      have e2 : (((n * 10 + (bAt s pos - 48)).toNat % 10 : Nat) : Int) = bAt s pos - 48 := by omega
      rw [e1, e2]
      congr 2
      omega
theorem numV_some {s : ByteArray} {most v : Int} (h : numV s most = some v) : nmsB s = dg v.toNat ∧ 0 ≤ v := by
  unfold numV at h
  split at h
  · cases h
  · exact numP_dg s most s.size 0 0 v h (by omega) (by omega) (.inl ⟨rfl, rfl⟩) (by omega)

theorem eqS_iff {x y : ByteArray} : eqS x y = true ↔ x = y := by
  unfold eqS
  constructor
  · intro h; exact ba_ext (by simpa using h)
  · rintro rfl; simp
theorem prV_some {s : ByteArray} {p : Int} (h : prV s = some p) : s = decB p.toNat ∧ 1 ≤ p ∧ p ≤ 65535 := by
  refine ⟨?_, prV_rng s h⟩
  have hn : numV s 65535 = some p := by
    unfold prV at h
    split at h
    · cases h
    · rename_i q hq
      split at h
      · cases h
      · cases h; exact hq
  have := (numV_some hn).1
  rw [← str_nmsB s, this]
  exact str_nmsB _
theorem ba_app (x y : ByteArray) : (x ++ y).data.toList = x.data.toList ++ y.data.toList := by simp
theorem ba_ext_list (s : ByteArray) (i j : Nat) : (s.extract i j).data.toList = (s.data.toList.take j).drop i := by
  rw [ByteArray.data_extract, Array.toList_extract, List.extract_eq_take_drop, List.take_drop]
  by_cases h : i ≤ j
  · rw [Nat.add_sub_cancel' h]
  · rw [List.drop_eq_nil_of_le (by rw [List.length_take]; omega), List.drop_eq_nil_of_le (by rw [List.length_take]; omega)]
theorem bapp_nil (x : ByteArray) : x ++ ⟨#[]⟩ = x := ba_ext (by rw [ba_app]; exact List.append_nil _)
theorem bnil_app (x : ByteArray) : (⟨#[]⟩ : ByteArray) ++ x = x := ba_ext (by rw [ba_app]; exact List.nil_append _)
theorem cut_join (s p : ByteArray) : cutA s p ++ (betw s p ++ cutZ s p) = s := by
  apply ba_ext
  rw [ba_app, ba_app]
  unfold betw
  rw [ba_ext_list]
  rcases cut_spec s p with ⟨_, h, _⟩ | ⟨_, h1, h2, _⟩
  · have hl := congrArg List.length h
    rw [List.length_append, List.length_append, ← ba_len, ← ba_len, ← ba_len, ← ba_len] at hl
    generalize cutA s p = A at *
    generalize cutZ s p = Z at *
    have : (s.data.toList.take (s.size - Z.size)).drop A.size = p.data.toList := by
      rw [h, show s.size - Z.size = A.size + p.size by omega, ba_len A, ba_len p, ← List.append_assoc, List.take_left' (by simp), List.drop_left]
    rw [this, ← h]
  · rw [h1, h2, show ByteArray.size ⟨#[]⟩ = 0 from rfl, Nat.sub_zero, List.drop_eq_nil_of_le (by rw [List.length_take]; omega)]
    show s.data.toList ++ ([] ++ []) = _
    simp
theorem cut_at {s p : ByteArray} (h : cutF s p = true) : s = cutA s p ++ (p ++ cutZ s p) := by
  apply ba_ext
  rw [ba_app, ba_app]
  rcases cut_spec s p with ⟨_, h, _⟩ | ⟨h1, _⟩
  · exact h
  · rw [h] at h1; cases h1
theorem cut_not {s p : ByteArray} (h : cutF s p = false) : cutA s p = s ∧ cutZ s p = ⟨#[]⟩ := by
  rcases cut_spec s p with ⟨h1, _⟩ | ⟨_, h1, h2, _⟩
  · rw [h] at h1; cases h1
  · exact ⟨h1, h2⟩
theorem ext_split (s : ByteArray) (k : Nat) (h : k ≤ s.size) : s.extract 0 k ++ s.extract k s.size = s := by
  apply ba_ext
  rw [ba_app, ba_ext_list, ba_ext_list, ba_len s, List.take_length, List.drop_zero, List.take_append_drop]
/-- A line that names a port is what is ahead, the port, what is behind. -/
theorem mdO_join {l a b : ByteArray} {p : Int} (h : mdO l = some (a, p, b)) : a ++ decB p.toNat ++ b = l ∧ 1 ≤ p ∧ p ≤ 65535 := by
  unfold mdO at h
  split at h
  · cases h
  split at h
  · cases h
  rename_i h1 h2
  cases hp : prV (cutA (cutZ l spB) spB) with
  | none => rw [hp] at h; cases h
  | some q =>
    rw [hp] at h
    simp only at h
    split at h
    · cases h
    · cases h
      obtain ⟨e, hr⟩ := prV_some hp
      refine ⟨?_, hr⟩
      rw [← e]
      have hF : cutF l spB = true := by
        cases hf : cutF l spB with
        | true => rfl
        | false =>
          have := (cut_not hf).2
          rw [this] at h2
          exact absurd (by decide) h2
      have hs := cut_size (cutZ l spB) spB
      have h2' : cutF (cutZ l spB) spB = true := by simpa using h2
      have hz : cutA (cutZ l spB) spB = (cutZ l spB).extract 0 (cutA (cutZ l spB) spB).size := by
        apply ba_ext
        rw [ba_ext_list, List.drop_zero]
        conv => rhs; arg 2; rw [cut_at h2']
        rw [ba_app, ba_len, List.take_left]
      conv => rhs; rw [cut_at hF]
      rw [ByteArray.append_assoc, ByteArray.append_assoc]
      congr 2
      conv => lhs; arg 1; rw [hz]
      exact ext_split _ _ hs.1
theorem suf_app {s p : ByteArray} (h : hsB s p = true) : ∃ t : ByteArray, s = t ++ p := by
  unfold hsB Lib.hasSuffix at h
  obtain ⟨t, ht⟩ := List.isSuffixOf_iff_suffix.1 h
  exact ⟨⟨t.toArray⟩, ba_ext (by rw [ba_app]; simp [ht])⟩
theorem ts_join {s p : ByteArray} (h : hsB s p = true) : tsB s p ++ p = s := by
  obtain ⟨t, rfl⟩ := suf_app h
  have h' : Lib.hasSuffix (t ++ p).data.toList p.data.toList = true := h
  apply ba_ext
  rw [ba_app]
  unfold tsB Lib.trimSuffix
  rw [if_pos h', ba_app]
  simp
theorem suf_of {s o p : ByteArray} (h : hsB s (o ++ p) = true) : hsB s p = true := by
  obtain ⟨t, rfl⟩ := suf_app h
  unfold hsB Lib.hasSuffix
  rw [List.isSuffixOf_iff_suffix]
  exact ⟨(t ++ o).data.toList, by simp⟩
/-- Nothing is to be changed. -/
def Cg.same (c : Cg) : Prop := c.host = c.is ∧ c.port = c.np ∧ ∀ m ∈ c.media, m.1 = m.2
theorem inB_same {l : List (Int × Int)} (h : ∀ m ∈ l, m.1 = m.2) (p : Int) : inB l p = p := by
  unfold inB
  cases hf : l.find? (fun m => m.1 == p) with
  | none => rfl
  | some m =>
    have h1 := List.find?_some hf
    have h2 := h m (List.mem_of_find?_eq_some hf)
    simp only [beq_iff_eq] at h1
    simp only [Option.map_some, Option.getD_some]
    omega
theorem mlB_same {c : Cg} (h : ∀ m ∈ c.media, m.1 = m.2) (l : ByteArray) : mlB c l (mdO l) = l := by
  cases hm : mdO l with
  | none => rfl
  | some x =>
    obtain ⟨a, p, b⟩ := x
    show a ++ decB (inB c.media p).toNat ++ b = l
    rw [inB_same h]
    exact (mdO_join hm).1
theorem lnB_same {c : Cg} (h : c.same) (l : ByteArray) : lnB c l = l := by
  obtain ⟨h1, _, h2⟩ := h
  unfold lnB
  split
  · rename_i e
    rw [← h1]
    exact (eqS_iff.1 e).symm
  split
  · rename_i e
    rw [← h1]
    exact ts_join (suf_of e.2)
  · exact mlB_same h2 l
theorem bdL_keep {c : Cg} (s : ByteArray) : ∀ (n : Nat) (s : ByteArray) (acc : ByteArray), s.size ≤ n → (∀ x ∈ lnsB s, lnB c x.1 = x.1) → (lnsB s).foldl (fun b x => b ++ (lnB c x.1 ++ x.2)) acc = acc ++ s
  | 0, s, acc, h, _ => by
    rw [lnsB_nil (by omega), str_empty s (by omega)]
    exact (bapp_nil acc).symm
  | n + 1, s, acc, h, hl => by
    by_cases h0 : s.size = 0
    · rw [lnsB_nil h0, str_empty s h0]
      exact (bapp_nil acc).symm
    · have hz := (cut_sizes s crB).2 h0 (by decide)
      have e := lnsB_cons h0
      rw [e] at hl ⊢
      rw [List.foldl_cons, bdL_keep s n (cutZ s crB) _ (by omega) (fun x hx => hl x (by simp [hx])), hl _ (by simp)]
      simp only
      rw [ByteArray.append_assoc, ByteArray.append_assoc, cut_join]
theorem bdB_keep {c : Cg} {s : ByteArray} (h : ∀ x ∈ lnsB s, lnB c x.1 = x.1) : bdB c s = s := by
  unfold bdB bdL
  rw [bdL_keep s s.size s _ (Nat.le_refl _) h]
  exact bnil_app s
theorem plB_same {c : Cg} (h : c.same) (t : ByteArray) : plB c t = t := by
  obtain ⟨h1, h2, _⟩ := h
  unfold plB
  split
  · rfl
  rename_i e
  have e := eqS_iff.1 (by simpa using e : eqS (cutA t cln) c.host = true)
  split
  · rename_i f
    rw [← h1, ← e]
    exact (cut_not f).1
  rename_i f
  have f : cutF t cln = true := by simpa using f
  cases hp : prV (cutZ t cln) with
  | none => rfl
  | some p =>
    simp only
    have hq : (if p = c.port then c.np else p) = p := by split <;> omega
    rw [hq, ← (prV_some hp).1, ← h1, ← e, ByteArray.append_assoc]
    exact (cut_at f).symm
theorem wiB_keep {c : Cg} {v mark ends : ByteArray} (h : plB c ((cutZ v mark).extract 0 (endP ends (cutZ v mark))) = (cutZ v mark).extract 0 (endP ends (cutZ v mark))) : wiB c v mark ends = v := by
  unfold wiB
  split
  · rfl
  rename_i f
  have f : cutF v mark = true := by simpa using f
  rw [h, ByteArray.append_assoc, ByteArray.append_assoc, ext_split _ _ (endP_le _ _)]
  exact (cut_at f).symm
theorem okh_len {n : Nat} {h : Hr} (ho : okh n h = true) (hn : swV h.1 clN = true) : h.2 = decB n := by
  unfold okh at ho
  simp only [Bool.and_eq_true, Bool.or_eq_true, hn, Bool.not_true, Bool.false_eq_true, false_or] at ho
  exact eqS_iff.1 ho.2.2
theorem rgB_okh {st : ByteArray} {hs : List Hr} {n : Nat} (h : rgB st hs n = true) : ∀ x ∈ hs, okh n x = true := by
  unfold rgB rhB at h
  simp only [Bool.and_eq_true] at h
  exact List.all_eq_true.1 h.2.2.1.2.1
theorem vuB_keep {c : Cg} {n : Nat} {h : Hr} (h1 : ∀ m e, plB c ((cutZ h.2 m).extract 0 (endP e (cutZ h.2 m))) = (cutZ h.2 m).extract 0 (endP e (cutZ h.2 m))) (ho : okh n h = true) : vuB c n h = h.2 := by
  unfold vuB
  split
  · exact wiB_keep (h1 _ _)
  split
  · exact wiB_keep (h1 _ _)
  split
  · rename_i e; exact (okh_len ho e).symm
  · rfl
/-- A message in which nothing is to be changed is itself. -/
theorem rw_keep {c : Cg} {st : ByteArray} {hs : List Hr} {zb : List Int} (hB : Mt.By zb) (h1 : ∀ x ∈ lnsB (strOfNums zb), lnB c x.1 = x.1) (h2 : ∀ h ∈ hs, ∀ m e, plB c ((cutZ h.2 m).extract 0 (endP e (cutZ h.2 m))) = (cutZ h.2 m).extract 0 (endP e (cutZ h.2 m))) : rwHs c st hs zb = hs ∧ rwZb c st hs zb = zb := by
  unfold rwHs rwZb
  split
  · rename_i ok
    unfold rwOk at ok
    simp only [Bool.and_eq_true] at ok
    have hok := rgB_okh ok.1
    have hs2 : (bdB c (strOfNums zb)).size = zb.length := by rw [bdB_keep h1, strOfNums_size]
    refine ⟨?_, by rw [bdB_keep h1, nmsB_str _ hB]⟩
    unfold mgH
    rw [hs2]
    conv => rhs; rw [← List.map_id hs]
    refine List.map_congr_left fun h hh => ?_
    rw [vuB_keep (h2 h hh) (hok h hh)]
    rfl
  · exact ⟨rfl, rfl⟩
theorem rw_same {c : Cg} (hc : c.same) {st : ByteArray} {hs : List Hr} {zb : List Int} (hB : Mt.By zb) : rwHs c st hs zb = hs ∧ rwZb c st hs zb = zb :=
  rw_keep hB (fun x _ => lnB_same hc x.1) (fun h _ m e => plB_same hc _)
end Go.Proofs.YtehdgndbloaljaaDoor
