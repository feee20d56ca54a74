import Derived.Test.YtofknbfbmaefoaaGreatDoorX7
import Derived.Maps.RangeRun
import Derived.Test.YtofknbfbmaefoaaGreatDoorX3
import Derived.Test.YtofknbfbmaefoaaGreatDoorX8
import Derived.Test.YtofknbfbmaefoaaGreatDoorX17
import Derived.Test.YtofknbfbmaefoaaGreatDoorX11
import Derived.Test.YtofknbfbmaefoaaGreatDoorX10
import Derived.Test.YtofknbfbmaefoaaGreatDoorX13
import Derived.Test.YtofknbfbmaefoaaGreatDoorX18
import Derived.Test.YtofknbfbmaefoaaGreatDoorX9
namespace Go.Proofs.YtofknbfbmaefoaaGreatDoor
set_option maxHeartbeats 8000000
open Go.RowKit Go.Shelf Go.ChangeMaps
set_option maxRecDepth 100000
set_option linter.unusedVariables false
set_option linter.unusedSimpArgs false
theorem later_setBlock {A B : World} (h : Later A B) {r : Nat} (hr : A.heap.size ≤ r) (o : Obj) : Later A (setBlock B r o) := ⟨h.os, h.tape, h.output, by show A.heap.size ≤ (B.heap.setIfInBounds r o).size; rw [Array.size_setIfInBounds]; exact h.size, fun i hi => by
 show (B.heap.setIfInBounds r o)[i]? = _
 rw [Array.getElem?_setIfInBounds_ne (by omega)]
 exact h.block i hi⟩
theorem setBlock_at {B : World} {r : Nat} {o o' : Obj} (h : B.heap[r]? = some o) : (setBlock B r o').heap[r]? = some o' := by
 have := (bl9 h)
 show (B.heap.setIfInBounds r o')[r]? = _
 simp [this]
def KWk (n₀ : Nat) (A B : World) : Prop := Below n₀ A B ∧ ∀ (k : Nat) (o : Obj), A.heap[k]? = some o → o.isWalk = true → B.heap[k]? = some o
theorem KWk.trans {n : Nat} {a b c : World} (h : KWk n a b) (k : KWk n b c) : KWk n a c := ⟨h.1.trans k.1, fun i o h1 h2 => k.2 i o (h.2 i o h1 h2) h2⟩
theorem KWk.of {n : Nat} {a b : World} (h : Later a b) (hn : n ≤ a.heap.size) : KWk n a b := ⟨h.mono hn, fun i o h1 _ => later_keep h h1⟩
theorem KWk.put {n : Nat} {W : World} {l : Nat} {o o' : Obj} (hl : n ≤ l) (h : W.heap[l]? = some o) (hc : o.isCells = false) (hw : o.isWalk = false) : KWk n W (W.putObj l o') := ⟨(belowK_b (n₀ := n) (w := { W with heap := W.heap.take n }) (by have := (bl9 h); simp; omega) W l o o' (by simp; omega) h hc hw), fun k ob h1 h2 => by
 by_cases e : k = l
 ·subst e
  rw [h] at h1
  cases h1
  rw [hw] at h2
  cases h2
 ·exact (World.putObj_heap_other e).trans h1⟩
theorem next_one {w : World} {r bm since c0 clock : Nat} {en : MapEntry} (ty : TypeId) (hr : w.heap[r]? = some (.mapIter (some bm) since #[] c0)) (hb : w.heap[bm]? = some (.map #[en] clock)) (he : en.born < since) (hsc : since ≤ c0) :
  ∃ w1 : World, (w1 = w ∨ w1 = w.drew) ∧ (Instr.next (.pointer (some ⟨r, 0, none⟩)) false ty).run Tryz.prog w = .ok (.tuple #[.bool true, en.key, en.val]) (setBlock w1 r (.mapIter (some bm) since #[en.born] clock)) := by
 rcases Go.run_next_at (P := Tryz.prog) w ty r bm since c0 #[] #[en] clock hr hb (fun x hx => by simp at hx; rw [hx]; exact he) hsc with ⟨h0, _⟩ | ⟨e', he', w1, h1, h2⟩
 ·simp [leftOf] at h0
 ·have e : e' = en := by simpa [leftOf] using he'
  subst e
  exact ⟨w1, h1, by simpa using h2⟩
theorem next_done {w : World} {r bm since c0 clock : Nat} {en : MapEntry} (ty : TypeId) (hr : w.heap[r]? = some (.mapIter (some bm) since #[en.born] c0)) (hb : w.heap[bm]? = some (.map #[en] clock)) (he : en.born < since) (hsc : since ≤ c0) :
  (Instr.next (.pointer (some ⟨r, 0, none⟩)) false ty).run Tryz.prog w = .ok (.tuple #[.bool false]) w := by
 rcases Go.run_next_at (P := Tryz.prog) w ty r bm since c0 #[en.born] #[en] clock hr hb (fun x hx => by simp at hx; rw [hx]; exact he) hsc with ⟨_, h⟩ | ⟨e', he', _⟩
 ·exact h
 ·simp [leftOf] at he'
def Xk (z : Int) (pre : List Int) (x : Int) (W : World) : Prop := pre = [] ∧ x = z
theorem keysO_in (n : Nat) (hn : 1 ≤ n) (l B gf cf bn n₀ : Nat) (z : Int) (v : Value) (J Jx : List Int → World → Prop) (hJ : ∀ s A B, J s A → Later A B → J s B)
  (hY : ∀ pre x V, J pre V → Xk z pre x V → YieldAt Fence.wide (n - 1) Tryz.prog l (encK x) V fun e V' => (e = .returned (.bool true) ∧ J (pre ++ [x]) V' ∧ KWk n₀ V V') ∨ (e = .returned (.bool false) ∧ Jx (pre ++ [x]) V'))
  (W : World) (hB : W.cell? ⟨B, 0, none⟩ = some (.map (some gf))) (hm : W.heap[gf]? = some (.map #[⟨.int .i64 z, v, bn⟩] cf)) (hbn : bn < cf) (hg0 : gf < n₀) (h0 : J [] W) :
  CallsIn Fence.wide n Tryz.prog 114 #[.func (.yield l) #[] #[], .pointer (some ⟨B, 0, none⟩)] W fun e W' => (∃ v, e = .returned v) ∧ ((∃ xs, xs = [z] ∧ J xs W') ∨ ∃ pre, True ∧ Jx pre W') := by
 have la := later_allocG W (.mapIter (some gf) cf #[] cf)
 have hrg := run_range_map (P := Tryz.prog) W 74 _ _ gf #[⟨.int .i64 z, v, bn⟩] cf Tryz.underlying74 hm
 have hit := heap_alloc_new W (.mapIter (some gf) cf #[] cf)
 have hm1 := later_keep la hm
 have hgfl := (bl9 hm)
 obtain ⟨Wn, hwn, hnx⟩ := next_one (en := ⟨.int .i64 z, v, bn⟩) 0 hit hm1 hbn (Nat.le_refl cf)
 have lw : Later W Wn := by
  rcases hwn with e | e
  ·rw [e]; exact la
  ·rw [e]; exact la.trans (Later.drew _)
 have hin : Wn.heap[W.heap.size]? = some (.mapIter (some gf) cf #[] cf) := by
  rcases hwn with e | e
  ·rw [e]; exact hit
  ·rw [e]; exact later_keep (Later.drew _) hit
 have lv : Later W (setBlock Wn W.heap.size (.mapIter (some gf) cf #[bn] cf)) := later_setBlock lw (Nat.le_refl _) _
 have hiv : (setBlock Wn W.heap.size (.mapIter (some gf) cf #[bn] cf)).heap[W.heap.size]? = some (.mapIter (some gf) cf #[bn] cf) := setBlock_at hin
 have hmv := later_keep lv hm
 have hen := Go.run_entry_at (P := Tryz.prog) (setBlock Wn W.heap.size (.mapIter (some gf) cf #[bn] cf)) W.heap.size gf cf #[] #[⟨.int .i64 z, v, bn⟩] cf ⟨.int .i64 z, v, bn⟩ hiv hmv (by simp) (by simp)
 simp only at hnx hen
 have HIV := hide hiv
 have HIT := hide hit
 have HMV := hide hmv
 have LV := hide lv
 have HNX := hide hnx
 have HEN := hide hen
 have HY := hide hY
 have HJ := hide hJ
 have HBN := hide hbn
 clear hnx hm hm1 hit la hY hJ hwn lw hin lv hiv hmv hen hbn
 refine callsIn_of_wp Tryz.func114 rfl trivial ?_ rfl
 simp only [Tryz.ntmps114, List.size_toArray, List.length_cons, List.length_nil, Nat.reduceAdd, Nat.reduceSub, Array.replicate_succ, Array.replicate_zero, List.push_toArray, List.append_toArray, List.nil_append, List.cons_append]
 gi_wp2
 clear hrg hB
 generalize hr : W.heap.size = r at *
 generalize W.alloc (.mapIter (some gf) cf #[] cf) = W1 at *
 generalize hV : setBlock Wn r (.mapIter (some gf) cf #[bn] cf) = V at *
 gi_loopw [3] (fun _ wx => wx = W1 ∨ (J [z] wx ∧ wx.heap[r]? = some (.mapIter (some gf) cf #[bn] cf) ∧ wx.heap[gf]? = some (.map #[⟨.int .i64 z, v, bn⟩] cf))) (fun _ wx => match wx.heap[r]? with | some (.mapIter _ _ seen _) => 1 - seen.size | _ => 0)
 case atStart => exact .inl rfl
 case round =>
  rcases hrel with hw | ⟨hj, hi, hm⟩
  ·subst hw
   have hnx := HNX.out
   have hen := HEN.out
   obtain ⟨fn, tmps, assign, body, hy, hR⟩ := HY.out [] z V (HJ.out _ _ _ h0 LV.out) ⟨rfl, rfl⟩
   dsimp only [encK] at hy
   gi_wp2
   refine hR.mono ?_
   rintro e W3 (⟨rfl, hJ3, hk3⟩ | ⟨rfl, hJx3⟩)
   ·have hi3 := hk3.2 r _ HIV.out rfl
    have hm3 := (hk3.1.block gf hg0).trans HMV.out
    have hit := HIT.out
    gi_wp2
    go_roundw
    case rel => exact .inr ⟨hJ3, hi3, hm3⟩
    case measure => simp [hi3, hit]
   ·gi_wp2
    refine bodyPost_ret (results_none rfl _ _ _) rfl ?_
    exact ⟨⟨_, rfl⟩, .inr ⟨_, trivial, hJx3⟩⟩
  ·have hnd := next_done (en := ⟨.int .i64 z, v, bn⟩) 0 hi hm HBN.out (Nat.le_refl cf)
   gi_wp2
   go_end0
   exact ⟨⟨_, rfl⟩, .inl ⟨_, rfl, hj⟩⟩
open Go.RowKit Go.Shelf
attribute [local go_sem] Oper.semAt_some
theorem keysO_gen (n : Nat) (hn : 1 ≤ n) (B gf cf bn n₀ : Nat) (z : Int) (v : Value) (w : World) (hB : w.heap[B]? = some (.cells #[.map (some gf)] 74 (0, 0))) (hm : w.heap[gf]? = some (.map #[⟨.int .i64 z, v, bn⟩] cf)) (hbn : bn < cf) (hg : gf < n₀) :
  GenX Fence.wide n Tryz.prog 114 #[.pointer (some ⟨B, 0, none⟩)] encK (KWk n₀) (Xk z) (fun xs => xs = [z]) (fun _ => True) w := fun l J Jx W hW hJ hY h0 =>
 keysO_in n hn l B gf cf bn n₀ z v J Jx hJ hY W (block_cell (later_keep hW hB) 0) (later_keep hW hm) hbn hg h0
def GaO (B n₀ : Nat) (pre : List Int) (W : World) : Prop := ∃ v, W.heap[B]? = some (.cells #[v] 152 (0, 0)) ∧ W.ownsRow n₀ 3 1 v pre.length (pre.map (Value.int .i64)) ∧ (pre = [] → v = .slice none 0 0)
theorem owns_ctG {base : Nat} {e : TypeId} {size : Nat} {A B : World} {v : Value} {n : Nat} {xs : List Value} (h : A.ownsRow base e size v n xs) (c : CT A B) : B.ownsRow base e size v n xs := by
 obtain ⟨h1, h2 | ⟨g, cap, cur, hv, hg, hh, r⟩⟩ := h
 ·exact ⟨h1, .inl h2⟩
 ·exact ⟨h1, .inr ⟨g, cap, cur, hv, hg, c.2 _ _ hh rfl, r⟩⟩
theorem GaO.ct {B n₀ : Nat} {pre : List Int} {U V : World} (h : GaO B n₀ pre U) (c : CT U V) : GaO B n₀ pre V := by
 obtain ⟨v, h1, h2, h3⟩ := h
 exact ⟨v, c.2 _ _ h1 rfl, owns_ctG h2 c, h3⟩
theorem hsetG {W : World} {n m j : Nat} {v : Value} {o : Obj} (h : W.heap[n]? = some o) (hne : n ≠ m) : (W.setCell ⟨m, j, none⟩ v).heap[n]? = some o := (Below.heap_setCell W ⟨m, j, none⟩ v n hne).trans h
theorem newG (W : World) (e : TypeId) (xs : List Value) : ∀ j u, xs[j]? = some u → (W.alloc (.cells xs.toArray e)).cell? ((⟨W.heap.size, 0, none⟩ : Addr).add j) = some u := fun j u hj => by
 rw [show (⟨W.heap.size, 0, none⟩ : Addr).add j = ⟨W.heap.size, j, none⟩ from by unfold Addr.add; split <;> simp_all, block_cell (heap_alloc_new W _) j]
 simpa using hj
theorem walk_cells {o : Obj} (h : o.isWalk = true) : o.isCells = false := by cases o <;> simp_all [Obj.isWalk, Obj.isCells]
theorem info_i64 : (Tryz.prog.info? 3).map (fun i => (i.zero, i.size, i.bytes)) = some (some (.int .i64 0), 1, 8) := by kernel_rfl
theorem appendSeq_one (B gf cf bn : Nat) (z : Int) (u : Value) (w : World) (hB : w.heap[B]? = some (.cells #[.map (some gf)] 74 (0, 0))) (hm : w.heap[gf]? = some (.map #[⟨.int .i64 z, u, bn⟩] cf)) (hbn : bn < cf) :
  Calls Tryz.prog 157 #[.slice none 0 0, .func (.func 114) #[] #[.pointer (some ⟨B, 0, none⟩)]] w fun e w' => Later w w' ∧ ∃ v, e = .returned v ∧ w'.ownsRow w.heap.size 3 1 v 1 [.int .i64 z] := by
 have l0 := later_allocG w (.cells #[.slice none 0 0] 152)
 have C0 := hide (heap_alloc_new w (.cells #[.slice none 0 0] 152))
 have HB1 := hide (later_keep l0 hB)
 have HM1 := hide (later_keep l0 hm)
 have hgl := (bl9 hm)
 refine (callsIn_wide (n := 5)).1 ?_
 refine callsIn_of_wp_marks Tryz.func157 rfl trivial ?_ rfl
 simp only [Tryz.ntmps157, List.size_toArray, List.length_cons, List.length_nil, Nat.reduceAdd, Nat.reduceSub, Array.replicate_succ, Array.replicate_zero, List.push_toArray, List.append_toArray, List.nil_append, List.cons_append]
 gi_wp2
 have hs1 : (w.alloc (.cells #[.slice none 0 0] 152)).heap.size = w.heap.size + 1 := by simp
 generalize w.alloc (.cells #[.slice none 0 0] 152) = w1 at *
 have hs0 := l0.size
 refine wpIn_rangeX (w := w1) rfl (by omega) (gf := 114) (lb := #[.pointer (some ⟨B, 0, none⟩)]) rfl trivial (enters_of Tryz.func114 (by kernel_rfl) rfl)
  (keysO_gen 4 (by omega) B gf cf bn w.heap.size z u w1 HB1.out HM1.out hbn hgl)
  (fun h k => h.trans k) (fun W l o o' hl ho hc hw => KWk.put (by omega) ho hc hw) (fun hA hL => KWk.of hL (by omega)) (fun _ _ _ _ h _ => h) (fun _ _ _ _ _ _ _ _ _ h => h) (fun _ => rfl)
  (fun pre W => GaO w.heap.size (w.heap.size + 1) pre W ∧ Below w.heap.size w W) (fun pre W => False)
  (OwnFrom.and (fun s A B row hs hg hr => hs.ct (CT.row hg (fun r e => (hr r e).2))) (ownFrom_below (Nat.le_refl _) (by omega)))
  (fun s A B h l => ⟨h.1.ct (CT.of l), h.2.trans (l.mono h.2.size)⟩)
  (fun s A B row hs hg hr => hs)
  ⟨⟨.slice none 0 0, C0.out, World.ownsRow_nil _ _ _ _, fun _ => rfl⟩, l0⟩
  (fun x a' W => a' = { tmps := #[.slice none 0 0, .func (.func 114) #[] #[.pointer (some ⟨B, 0, none⟩)], .pointer (some ⟨w.heap.size, 0, none⟩), undef, .slice none 0 0, .int .i64 x, .func (.func 114) #[] #[.pointer (some ⟨B, 0, none⟩)], .int .i64 x, undef, undef, undef, undef, undef], defers := [] })
  (fun x a' W l o o' hl ho hc h => h) ?assign ?body ?done ?stop
 case assign =>
  rintro l pre x W K hsz _ hX hK
  dsimp only [encK]
  gi_wp2
  exact hK _ _ (Later.refl _) rfl
 case body =>
  rintro l pre x a' W ⟨⟨v, h1, hOw, hv0⟩, hbW⟩ ⟨rfl, rfl⟩ rfl
  obtain rfl := hv0 rfl
  have K0 := block_cell h1
  have F0 := block_frozen h1
  have hol := (bl9 h1)
  obtain ⟨i0, hi, hz0, hz1, hz2⟩ := info_parts info_i64
  have HNW := hide (newG W 3 [Value.int .i64 x])
  have H1 := hide h1
  have hbs := hbW.size
  clear hOw hv0 h1
  gi_wp2_with (gi_at_builtin; refine wpListIn_append_own _ rfl (.tmp 8) (.tmp 10) 152 rfl (w.heap.size + 1) 3 i0 (.int .i64 0) 1 8 Tryz.underlying152 hi hz0 hz1 hz2 rfl (by decide) _ 0 [] rfl (World.ownsRow_nil _ _ _ _) ⟨W.heap.size, 0, none⟩ 1 1 [Value.int .i64 x] rfl rfl HNW.out (by intro u hu; simp at hu; subst hu; rfl) (by simp only [maxLen]; omega) (by omega) (by simp; omega) ?_; intro v2 W2 hrow2 hg2 hnn; obtain ⟨g2, cp2, rfl⟩ := ownsRow_succ hrow2; have hob2 := (hg2.block w.heap.size (by simp; omega) (fun e => by cases e)).trans ((Below.heap_alloc W _ w.heap.size hol).trans H1.out); have Kv2 := block_cell hob2; have Fv2 := block_frozen hob2)
  have hkeep : ∀ i o, W.heap[i]? = some o → i ≠ w.heap.size → (W2.setCell ⟨w.heap.size, 0, none⟩ (.slice (some ⟨g2, 0, none⟩) (0 + 1) cp2)).heap[i]? = some o := fun i o hi h2 =>
   hsetG ((hg2.block i (by have := (bl9 hi); simp; omega) (fun e => by cases e)).trans ((Below.heap_alloc W _ i (bl9 hi)).trans hi)) h2
  have hsz2 : W.heap.size + 1 ≤ W2.heap.size := by have := hg2.size; simpa using this
  have hnc : ∀ i o, W.heap[i]? = some o → o.isCells = false → i ≠ w.heap.size := fun i o hi hc e => by
   rw [e, H1.out] at hi
   cases hi
   cases hc
  have hbn2 : Below w.heap.size W (W2.setCell ⟨w.heap.size, 0, none⟩ (.slice (some ⟨g2, 0, none⟩) (0 + 1) cp2)) := ⟨hg2.os, hg2.tape, hg2.output, by simp; omega, fun i hi => by
   cases hh : W.heap[i]? with
   | none => have := Array.getElem?_eq_none_iff.1 hh; omega
   | some o => exact hkeep i o hh (by omega)⟩
  refine ⟨⟨hbn2.size, fun i o hi ho hc => hkeep i o ho (hnc i o ho hc)⟩, ⟨hbn2, fun i o ho hw => hkeep i o ho (hnc i o ho (walk_cells hw))⟩, ⟨_, heap_set1 hob2 0 _, ?_, fun e => by cases e⟩, hbW.trans hbn2⟩
  refine ⟨hrow2.1, hrow2.2.imp id ?_⟩
  rintro ⟨g, cp, cur, e1, e2, e3, r⟩
  exact ⟨g, cp, cur, e1, e2, hsetG e3 (by omega), r⟩
 case done =>
  rintro D xs W hD rfl ⟨⟨v, h1, hOw, _⟩, hbW⟩ hK
  have K1 := block_cell h1
  gi_wp2
  refine ⟨by simp, .inl ⟨_, _, rfl, run_takeDeferred hK, ?_⟩⟩
  exact ⟨v, by simp [results, Tryz.results157, go_sem], hbW.trans (belowK_b (w := w) (Nat.le_refl _) W D _ _ (by omega) hK rfl rfl), v, rfl, ownG_mono (owns_ctG hOw (CT.put hK rfl)) (by omega)⟩
 case stop =>
  rintro D pre W hD _ h
  exact h.elim
theorem collect_one (B gf cf bn : Nat) (z : Int) (u : Value) (w : World) (hB : w.heap[B]? = some (.cells #[.map (some gf)] 74 (0, 0))) (hm : w.heap[gf]? = some (.map #[⟨.int .i64 z, u, bn⟩] cf)) (hbn : bn < cf) :
  Calls Tryz.prog 112 #[.func (.func 114) #[] #[.pointer (some ⟨B, 0, none⟩)]] w fun e w' => Later w w' ∧ ∃ v, e = .returned v ∧ w'.ownsRow w.heap.size 3 1 v 1 [.int .i64 z] := by
 have HA := hide (appendSeq_one B gf cf bn z u w hB hm hbn)
 go_enter Tryz.func112, Tryz.ntmps112
 go_wp2_with fail
 refine HA.out.mono ?_
 rintro e w1 ⟨l1, v, rfl, hv⟩
 go_wp2_with fail
 go_ret
 exact ⟨l1, _, rfl, hv⟩
theorem insertO_one (sv : Value) (w : World) : Calls Tryz.prog 203 #[sv, .int .i64 0, .int .i64 1] w fun e w' => (∃ v, e = .returned v) ∧ w' = w := by
 go_enter Tryz.func203, Tryz.ntmps203
 go_wp2_with fail
 go_loopw [6] (fun i wr => i = .int .i64 1 ∧ wr = w) (fun _ _ => 0)
 case atStart => exact ⟨rfl, rfl⟩
 case round =>
  obtain ⟨rfl, rfl⟩ := hrel
  go_wp2_with fail
  go_end0
  exact ⟨⟨_, rfl⟩, rfl⟩
theorem pdqO_one (sv : Value) (lm : Int) (w : World) : Calls Tryz.prog 158 #[sv, .int .i64 0, .int .i64 1, .int .i64 lm] w fun e w' => (∃ v, e = .returned v) ∧ w' = w := by
 go_enter Tryz.func158, Tryz.ntmps158
 go_wp2_with fail
 go_loopw [1, 2] (fun a b wr => a = .int .i64 0 ∧ b = .int .i64 1 ∧ wr = w) (fun _ _ _ => 0)
 case atStart => exact ⟨rfl, rfl, rfl⟩
 case round =>
  obtain ⟨rfl, rfl, rfl⟩ := hrel
  go_wp2_with fail
  refine (insertO_one sv wr).mono ?_
  rintro e w1 ⟨⟨v, rfl⟩, rfl⟩
  go_wp2_with fail
  refine bodyPost_ret (results_none rfl _ _ _) rfl ?_
  exact ⟨⟨_, rfl⟩, rfl⟩
theorem sortO_one (a : Option Addr) (c : Nat) (w : World) : Calls Tryz.prog 113 #[.slice a 1 c] w fun e w' => (∃ v, e = .returned v) ∧ w' = w := by
 go_enter Tryz.func113, Tryz.ntmps113
 go_wp2_with fail
 refine (len_few 1 w (by omega)).mono ?_
 rintro e w1 ⟨⟨v, rfl⟩, rfl⟩
 go_wp2_with fail
 refine (pdqO_one (.slice a 1 c) v w1).mono ?_
 rintro e w2 ⟨⟨v2, rfl⟩, rfl⟩
 go_wp2_with fail
 go_end0
 exact ⟨⟨_, rfl⟩, rfl⟩
theorem sorted_one (B gf cf bn : Nat) (z : Int) (u : Value) (w : World) (hB : w.heap[B]? = some (.cells #[.map (some gf)] 74 (0, 0))) (hm : w.heap[gf]? = some (.map #[⟨.int .i64 z, u, bn⟩] cf)) (hbn : bn < cf) :
  Calls Tryz.prog 59 #[.func (.func 114) #[] #[.pointer (some ⟨B, 0, none⟩)]] w fun e w' => Later w w' ∧ ∃ v, e = .returned v ∧ w'.ownsRow w.heap.size 3 1 v 1 [.int .i64 z] := by
 have HA := hide (collect_one B gf cf bn z u w hB hm hbn)
 go_enter Tryz.func59, Tryz.ntmps59
 go_wp2_with fail
 refine HA.out.mono ?_
 rintro e w1 ⟨l1, v, rfl, hv⟩
 obtain ⟨g2, cp2, rfl⟩ := ownsRow_succ hv
 go_wp2_with fail
 refine (sortO_one _ _ w1).mono ?_
 rintro e w2 ⟨⟨v, rfl⟩, rfl⟩
 go_wp2_with fail
 go_ret
 exact ⟨l1, _, rfl, hv⟩
theorem wpList_appG {P : Program} {ops : Array Oper} {rest : List Oper} {o : Oper} {a : Act} {Q : Exit → Act → World → Prop} {w : World} (hg : o.guard = none) (s x : Operand) (t u : TypeId) (hop : o.op = Op.call { callee := Callee.builtin Builtin.append, args := #[s, x], argTypes := #[t, u] })
  (v sx : Value) (hs : a.eval s = v) (hx : a.eval x = sx) (v' : Value) (w' : World) (hrun : (Builtin.append_ #[t, u] o.type #[v, sx]).run P w = .ok v' w') (hk : wpList P ops Q rest (a.put o.dst v') w') : wpList P ops Q (o :: rest) a w :=
 wpList_plain hg fun K hK => wp_appT s x t u hop v sx hs hx v' w' hrun (hK _ _ hk)
theorem findG_yes (z : Int) (v : Value) : ∀ (l : List MapEntry) (i : Nat), (∀ e ∈ l, ∃ k : Int, e.key = .int .i64 k ∧ (k = z → e.val = v)) → (∃ e ∈ l, e.key = .int .i64 z) → ∃ j, Instr.findNow (.int .i64) (.int .i64 z) l i = some (some (j, v))
 | [], _, _, h => by obtain ⟨_, h, _⟩ := h; cases h
 | e :: l, i, h, hx => by
  obtain ⟨k, hk, hv⟩ := h e (by simp)
  by_cases hz : k = z
  ·have h1 : Instr.sameNow (.int .i64) (.int .i64 z) e.key = some true := by rw [hk, hz]; simp [Instr.sameNow]
   unfold Instr.findNow
   rw [h1]
   exact ⟨i, by rw [hv hz]⟩
  ·have h1 : Instr.sameNow (.int .i64) (.int .i64 z) e.key = some false := by rw [hk]; simp [Instr.sameNow, hz, Ne.symm hz]
   unfold Instr.findNow
   rw [h1]
   refine findG_yes z v l (i + 1) (fun e' he' => h e' (by simp [he'])) ?_
   obtain ⟨e', he', hk'⟩ := hx
   rcases List.mem_cons.1 he' with q | q
   ·rw [q, hk] at hk'
    injection hk' with _ q2
    exact absurd q2 hz
   ·exact ⟨e', q, hk'⟩
def IdU (s : Gf) : Prop := ∀ x ∈ s.fs, ∀ y ∈ s.fs, x.id = y.id → x.blk = y.blk
theorem look_flow {base g : Nat} {W : World} {s : Gf} (h : GF base W g s) {f : Fl} (hf : f ∈ s.fs) (hu : IdU s) : (Instr.lookup 74 (.map (some s.gf)) (.int .i64 f.id) false).run Tryz.prog W = .ok (.pointer (some ⟨f.blk, 0, none⟩)) W := by
 refine run_find Tryz.underlying74 Tryz.underlying3 h.fl f.id _ (.inl ?_)
 refine findG_yes f.id _ s.fe.toList 0 (fun e he => ?_) ?_
 ·have h1 : (e.key, e.val) ∈ s.fe.toList.map (fun e => (e.key, e.val)) := List.mem_map.2 ⟨e, he, rfl⟩
  rw [h.fm] at h1
  obtain ⟨x, hx, e2⟩ := List.mem_map.1 h1
  have e3 : (Value.int .i64 x.id) = e.key := congrArg Prod.fst e2
  have e4 : (Value.pointer (some ⟨x.blk, 0, none⟩)) = e.val := congrArg Prod.snd e2
  exact ⟨x.id, e3.symm, fun q => by rw [← e4, hu x hx f hf q]⟩
 ·have h1 : flE f ∈ s.fs.map flE := List.mem_map.2 ⟨f, hf, rfl⟩
  rw [← h.fm] at h1
  obtain ⟨e, he, e2⟩ := List.mem_map.1 h1
  exact ⟨e, he, congrArg Prod.fst e2⟩
theorem info_fp : (Tryz.prog.info? 85).map (fun i => (i.zero, i.size, i.bytes)) = some (some (.pointer none), 1, 8) := by kernel_rfl
theorem app_nilG {W : World} {e t : TypeId} {i : TypeInfo} {z : Value} {size bytes : Nat} (ht : Tryz.prog.underlying t = some (.slice e)) (hi : Tryz.prog.info? e = some i) (hz : i.zero = some z) (h1 : i.size = size) (h2 : i.bytes = bytes) (hb : bytes ≤ 1000) (hzc : z.cells.size = size) (hs : 0 < size) (xs : List Value) (hl : xs.length = size) (hx : ∀ u ∈ xs, u.oneCell' = true) (ty : TypeId) :
  ∃ a c W', (Builtin.append_ #[t, t] ty #[.slice none 0 0, .slice (some ⟨W.heap.size, 0, none⟩) 1 1]).run Tryz.prog (W.alloc (.cells xs.toArray e)) = .ok (.slice a 1 c) W' ∧ W'.ownsRow W.heap.size e size (.slice a 1 c) 1 xs ∧ Later W W' := by
 have la := later_allocG W (.cells xs.toArray e)
 obtain ⟨v', W', hrun, hrow, hg, _⟩ := run_append_own (P := Tryz.prog) (W.alloc (.cells xs.toArray e)) W.heap.size t ty e i z size bytes ht hi hz h1 h2 hzc hs (.slice none 0 0) 0 [] (World.ownsRow_nil _ _ _ _) ⟨W.heap.size, 0, none⟩ 1 1 xs (by omega) (newG W e xs) hx (by unfold maxLen; omega) (by omega) la.size
 obtain ⟨g2, cp2, rfl⟩ := ownsRow_succ hrow
 exact ⟨_, _, W', hrun, hrow, la.grown hg la.size (fun _ e => by cases e)⟩
theorem byId_one (base g : Nat) (s : Gf) (f : Fl) (w : World) (h : GF base w g s) (hfs : s.fs = [f]) (hbn : ∀ e ∈ s.fe.toList, e.born < s.cf) : Calls Tryz.prog 26 #[.pointer (some ⟨g, 0, none⟩)] w fun e w' => Later w w' ∧ ∃ a c, e = .returned (.slice a 1 c) ∧ w'.ownsRow w.heap.size 85 1 (.slice a 1 c) 1 [.pointer (some ⟨f.blk, 0, none⟩)] := by
 have k0 := block_cell h.gc
 unfold gfc at k0
 have la := later_allocG w (.cells #[.map (some s.gf)] 74)
 obtain ⟨bn, hfe, hbc⟩ : ∃ bn, s.fe = #[⟨.int .i64 f.id, .pointer (some ⟨f.blk, 0, none⟩), bn⟩] ∧ bn < s.cf := by
  have hm := h.fm
  rw [hfs] at hm
  obtain ⟨e, hq⟩ : ∃ e, s.fe.toList = [e] := by
   have hl := congrArg List.length hm
   rw [List.length_map] at hl
   exact List.length_eq_one_iff.1 hl
  rw [hq] at hm
  have h1 : (e.key, e.val) = flE f := by simpa using hm
  refine ⟨e.born, ?_, hbn e (by rw [hq]; simp)⟩
  have h2 : e.key = .int .i64 f.id := congrArg Prod.fst h1
  have h3 : e.val = .pointer (some ⟨f.blk, 0, none⟩) := congrArg Prod.snd h1
  have h4 : s.fe = #[e] := by rw [← Array.toArray_toList (xs := s.fe), hq]
  rw [h4, ← h2, ← h3]
 have hm0 := h.fl
 rw [hfe] at hm0
 have HS := hide (sorted_one w.heap.size s.gf s.cf bn f.id (.pointer (some ⟨f.blk, 0, none⟩)) _ (heap_alloc_new w (.cells #[.map (some s.gf)] 74)) (later_keep la hm0) hbc)
 have HLK := hide (fun W (l : Later w W) => look_flow (h.later l) (f := f) (by rw [hfs]; simp) (fun x hx y hy _ => by rw [hfs] at hx hy; rw [List.mem_singleton.1 hx, List.mem_singleton.1 hy]))
 have HG := hide h
 clear hm0 hfe hbn h
 go_enter Tryz.func26, Tryz.ntmps26
 go_wp2_with fail
 refine (keys_any s.gf w).mono ?_
 rintro e w1 ⟨rfl, rfl⟩
 go_wp2_with fail
 refine HS.out.mono ?_
 rintro e w2 ⟨l2, v, rfl, hrow⟩
 have L2 : Later w w2 := la.trans l2
 obtain ⟨g2, cp2, rfl⟩ := ownsRow_succ hrow
 have hcl : w2.cell? ⟨g2, 0, none⟩ = some (.int .i64 f.id) := by
  rcases hrow.2 with ⟨e, _⟩ | ⟨q, cp, cur, e, _, hh, _, _, _, hc⟩
  ·cases e
  ·cases e
   have := block_cell hh 0
   rw [this]
   have h0 := congrArg (fun l => l[0]?) hc
   simpa using h0
 have hg2w : g2 < w2.heap.size := World.block_lt_of_cell? _ _ hcl
 clear k0 hrow
 go_upto_region 3 with fail
 go_loopw [3, 13] (fun ov iv wr => (ov = .slice none 0 0 ∧ iv = .int .i64 0 ∧ wr = w2) ∨ (iv = .int .i64 1 ∧ Later w wr ∧ ∃ a c, ov = .slice a 1 c ∧ wr.ownsRow w.heap.size 85 1 (.slice a 1 c) 1 [.pointer (some ⟨f.blk, 0, none⟩)])) (fun _ iv _ => 1 - (intOf iv).toNat)
 case atStart => exact .inl ⟨rfl, rfl, rfl⟩
 case round =>
  rcases hrel with ⟨rfl, rfl, hw⟩ | ⟨rfl, hL, a, c, rfl, hO⟩
  ·subst hw
   have k1 := block_cell (HG.out.later L2).gc
   unfold gfc at k1
   have hlk := HLK.out wr L2
   obtain ⟨i0, hi, hz0, hz1, hz2⟩ := info_parts info_fp
   obtain ⟨a1, c1, W1, hr1, hO1, l1⟩ := app_nilG (W := wr) (t := 83) Tryz.underlying83 hi hz0 hz1 hz2 (by decide) rfl (by decide) [.pointer (some ⟨f.blk, 0, none⟩)] rfl (by intro u hu; simp at hu; subst hu; rfl) 83
   have HR1 := hide hr1
   have HO1 := hide hO1
   clear hr1 hO1
   go_upto_region 5 with fail
   go_upto_region 6 with (at_builtin; refine wpList_appG rfl (.tmp 17) (.tmp 24) 83 83 rfl _ _ rfl rfl _ _ HR1.out ?_)
   go_wp2_with fail
   go_roundw
   case rel => exact .inr ⟨rfl, L2.trans l1, a1, c1, rfl, ownG_mono HO1.out L2.size⟩
   case measure => decide
  ·go_wp2_with fail
   go_ret
   exact ⟨hL, a, c, rfl, hO⟩
theorem info_F : (Tryz.prog.info? 88).any (fun i => i.zero.any (fun z => z.cells.size == 15) && (i.size == 15 && decide (i.bytes ≤ 1000))) = true := by kernel_rfl
theorem info_F2 : ∃ i z, Tryz.prog.info? 88 = some i ∧ i.zero = some z ∧ i.size = 15 ∧ z.cells.size = 15 ∧ i.bytes ≤ 1000 := by
 have h := info_F
 cases hi : Tryz.prog.info? 88 with
 | none => rw [hi] at h; cases h
 | some i =>
  rw [hi] at h
  simp only [Option.any_some, Bool.and_eq_true, beq_iff_eq, decide_eq_true_eq] at h
  obtain ⟨h1, h2, h3⟩ := h
  cases hz : i.zero with
  | none => rw [hz] at h1; cases h1
  | some z =>
   rw [hz] at h1
   simp only [Option.any_some, beq_iff_eq] at h1
   exact ⟨i, z, rfl, hz, h2, h1, h3⟩
theorem flows_one (base g : Nat) (s : Gf) (f : Fl) (w : World) (h : GF base w g s) (hfs : s.fs = [f]) (hbn : ∀ e ∈ s.fe.toList, e.born < s.cf) : Calls Tryz.prog 9 #[.pointer (some ⟨g, 0, none⟩)] w fun e w' => Later w w' ∧ ∃ a c, e = .returned (.slice a 1 c) := by
 have HB := hide (byId_one base g s f w h hfs hbn)
 have HF := hide (h.fb f (by rw [hfs]; simp)).2
 clear h
 go_enter Tryz.func9, Tryz.ntmps9
 go_wp2_with fail
 refine HB.out.mono ?_
 rintro e w2 ⟨l2, a, c, rfl, hrow⟩
 have hcl : ∃ g2, a = some ⟨g2, 0, none⟩ ∧ w2.cell? ⟨g2, 0, none⟩ = some (.pointer (some ⟨f.blk, 0, none⟩)) := by
  rcases hrow.2 with ⟨e, _⟩ | ⟨q, cp, cur, e, _, hh, _, _, _, hc⟩
  ·cases e
  ·cases e
   refine ⟨q, rfl, ?_⟩
   rw [block_cell hh 0]
   have h0 := congrArg (fun l => l[0]?) hc
   simpa using h0
 obtain ⟨g2, rfl, hcl⟩ := hcl
 clear hrow
 go_upto_region 5 with fail
 go_loopw [3, 11] (fun ov iv wr => (ov = .slice none 0 0 ∧ iv = .int .i64 0 ∧ wr = w2) ∨ (iv = .int .i64 1 ∧ Later w wr ∧ ∃ a c, ov = .slice a 1 c)) (fun _ iv _ => 1 - (intOf iv).toNat)
 case atStart => exact .inl ⟨rfl, rfl, rfl⟩
 case round =>
  rcases hrel with ⟨rfl, rfl, hw⟩ | ⟨rfl, hL, a, c, rfl⟩
  ·subst hw
   have k1 := block_cell (later_keep l2 HF.out)
   unfold flc at k1
   obtain ⟨i0, z0, hi, hz0, hz1, hz3, hz2⟩ := info_F2
   obtain ⟨a1, c1, W1, hr1, _, l1⟩ := app_nilG (W := wr) (t := 42) Tryz.underlying42 hi hz0 hz1 rfl hz2 hz3 (by decide) [.int .i64 f.id, .int .u8 f.o.pr, .int .u32 f.o.src, .int .u32 f.o.dst, .int .u16 f.o.sp, .int .u16 f.o.dp, .int .u8 f.r.pr, .int .u32 f.r.src, .int .u32 f.r.dst, .int .u16 f.r.sp, .int .u16 f.r.dp, .int .i64 f.side, .int .i64 f.st, .int .i64 f.till, .int .i64 f.ms] rfl (by intro u hu; simp only [List.mem_cons, List.not_mem_nil, or_false] at hu; rcases hu with rfl | rfl | rfl | rfl | rfl | rfl | rfl | rfl | rfl | rfl | rfl | rfl | rfl | rfl | rfl <;> rfl) 42
   have HR1 := hide hr1
   clear hr1 hi hz0 hz1 hz2 hz3
   go_upto_region 7 with fail
   go_upto_region 8 with (at_builtin; refine wpList_appG rfl (.tmp 15) (.tmp 20) 42 42 rfl _ _ rfl rfl _ _ HR1.out ?_)
   go_wp2_with fail
   go_roundw
   case rel => exact .inr ⟨rfl, l2.trans l1, a1, c1, rfl⟩
   case measure => decide
  ·go_wp2_with fail
   go_ret
   exact ⟨hL, a, c, rfl⟩
theorem Ow.apart {base mb : Nat} {W W' : World} {v : Value} {zs : List Int} {cur : Array Value} {t : TypeId} (h : Ow base W v zs) (hm : W.heap[mb]? = some (.cells cur t (0, 0))) (ht : t ≠ 5) (hb : But (fun b => b = mb) W W') : Ow base W' v zs := by
 rcases h with h | ⟨g, cap, c, h1, h2, h3, h4, h5, h6, h7⟩
 ·exact .inl h
 ·refine .inr ⟨g, cap, c, h1, h2, h3, h4, h5, (hb.block g (bl9 h6) (fun e => ?_)).trans h6, h7⟩
  subst e
  rw [hm] at h6
  simp at h6
  exact ht h6.2
theorem rwith_any (tos id ttl proto src dst pr : Int) (keep : Bool) (so sx : Value) (ad : Option Addr) (ld cd : Nat) (zo zx : List Int) (w : World) (hIo : Rd w.heap.size w so zo) (hIx : Rd w.heap.size w sx zx) (h1 : zo.length ≤ 140737488355328) (h2 : zx.length ≤ 140737488355328) :
  Calls Tryz.prog 115 #[.agg #[.int .u8 tos, .int .u16 id, .bool keep, .int .u8 ttl, .int .u8 proto, .int .u32 src, .int .u32 dst, so, .slice ad ld cd], .int .u8 pr, sx] w fun e w' => Below w.heap.size w w' ∧ ((flt zo.length zx.length ≠ 0 ∧ e = .returned (.tuple #[.agg #[.int .u8 0, .int .u16 0, .bool false, .int .u8 0, .int .u8 0, .int .u32 0, .int .u32 0, .slice none 0 0, .slice none 0 0], .int .i64 (flt zo.length zx.length)])) ∨
   (flt zo.length zx.length = 0 ∧ ∃ a7 c7 a8 c8, e = .returned (.tuple #[.agg #[.int .u8 tos, .int .u16 id, .bool keep, .int .u8 ttl, .int .u8 pr, .int .u32 src, .int .u32 dst, .slice a7 zo.length c7, .slice a8 zx.length c8], .int .i64 0]) ∧ Ow w.heap.size w' (.slice a7 zo.length c7) zo ∧ Ow w.heap.size w' (.slice a8 zx.length c8) zx)) := by
 obtain ⟨ao, co, rfl, _, _⟩ := hIo.slice
 obtain ⟨ax, cx, rfl, _, _⟩ := hIx.slice
 have hb0 : Below w.heap.size w ((w.alloc (.cells #[.int .u8 tos, .int .u16 id, .bool keep, .int .u8 ttl, .int .u8 proto, .int .u32 src, .int .u32 dst, .slice ao zo.length co, .slice ad ld cd] 56)).alloc (.cells #[.int .u8 0, .int .u16 0, .bool false, .int .u8 0, .int .u8 0, .int .u32 0, .int .u32 0, .slice none 0 0, .slice none 0 0] 56)) := ((Below.refl _ _).alloc (Nat.le_refl _) _).alloc (by simp) _
 by_cases c1 : 40 < zo.length
 ·have t1 : (40 : Int) < zo.length := by omega
  have HF : Hid (flt zo.length zx.length = 4) := by show _ = _; unfold flt; rw [if_pos (.inl c1)]
  go_enter Tryz.func115, Tryz.ntmps115
  go_wp2_with fail
  exact bodyPost_ret (v := .tuple #[.agg #[.int .u8 0, .int .u16 0, .bool false, .int .u8 0, .int .u8 0, .int .u32 0, .int .u32 0, .slice none 0 0, .slice none 0 0], .int .i64 4]) (by simp [results, Tryz.results115, go_sem]) rfl ⟨hb0, .inl ⟨by rw [HF.out]; decide, by rw [HF.out]⟩⟩
 ·have t1 : ¬ (40 : Int) < zo.length := by omega
  by_cases c2 : zo.length % 4 = 0
  ·have t2 : ((zo.length : Int) % 4 != 0) = false := by simp; omega
   by_cases c3 : 65535 < 20 + zo.length + zx.length
   ·have t3 : (65535 : Int) < 20 + zo.length + zx.length := by omega
    have HF : Hid (flt zo.length zx.length = 8) := by show _ = _; unfold flt; rw [if_neg (by omega), if_pos c3]
    go_enter Tryz.func115, Tryz.ntmps115
    go_wp2_with fail
    exact bodyPost_ret (v := .tuple #[.agg #[.int .u8 0, .int .u16 0, .bool false, .int .u8 0, .int .u8 0, .int .u32 0, .int .u32 0, .slice none 0 0, .slice none 0 0], .int .i64 8]) (by simp [results, Tryz.results115, go_sem]) rfl ⟨hb0, .inl ⟨by rw [HF.out]; decide, by rw [HF.out]⟩⟩
   ·have t3 : ¬ (65535 : Int) < 20 + zo.length + zx.length := by omega
    have HF : Hid (flt zo.length zx.length = 0) := by show _ = _; unfold flt; rw [if_neg (by omega), if_neg c3]
    go_enter Tryz.func115, Tryz.ntmps115
    obtain ⟨i0, hi, hz0, hz1, hz2⟩ := info_parts info_u8
    go_upto_region 7 with fail
    have p1 : (((w.alloc (.cells #[.int .u8 tos, .int .u16 id, .bool keep, .int .u8 ttl, .int .u8 proto, .int .u32 src, .int .u32 dst, .slice ao zo.length co, .slice ad ld cd] 56)).alloc (.cells #[.int .u8 0, .int .u16 0, .bool false, .int .u8 0, .int .u8 0, .int .u32 0, .int .u32 0, .slice none 0 0, .slice none 0 0] 56)).alloc (.cells #[.int .u8 tos, .int .u16 id, .bool keep, .int .u8 ttl, .int .u8 pr, .int .u32 src, .int .u32 dst, .slice ao zo.length co, .slice ad ld cd] 56)).heap[w.heap.size]? = some (.cells #[.int .u8 tos, .int .u16 id, .bool keep, .int .u8 ttl, .int .u8 proto, .int .u32 src, .int .u32 dst, .slice ao zo.length co, .slice ad ld cd] 56) := (Below.heap_alloc _ _ _ (by simp; omega)).trans ((Below.heap_alloc _ _ _ (by simp)).trans (heap_alloc_new w _))
    have r1 : (((w.alloc (.cells #[.int .u8 tos, .int .u16 id, .bool keep, .int .u8 ttl, .int .u8 proto, .int .u32 src, .int .u32 dst, .slice ao zo.length co, .slice ad ld cd] 56)).alloc (.cells #[.int .u8 0, .int .u16 0, .bool false, .int .u8 0, .int .u8 0, .int .u32 0, .int .u32 0, .slice none 0 0, .slice none 0 0] 56)).alloc (.cells #[.int .u8 tos, .int .u16 id, .bool keep, .int .u8 ttl, .int .u8 pr, .int .u32 src, .int .u32 dst, .slice ao zo.length co, .slice ad ld cd] 56)).heap[w.heap.size + 1]? = some (.cells #[.int .u8 0, .int .u16 0, .bool false, .int .u8 0, .int .u8 0, .int .u32 0, .int .u32 0, .slice none 0 0, .slice none 0 0] 56 (0, 0)) := by
     have := heap_alloc_new (w.alloc (.cells #[.int .u8 tos, .int .u16 id, .bool keep, .int .u8 ttl, .int .u8 proto, .int .u32 src, .int .u32 dst, .slice ao zo.length co, .slice ad ld cd] 56)) (.cells #[.int .u8 0, .int .u16 0, .bool false, .int .u8 0, .int .u8 0, .int .u32 0, .int .u32 0, .slice none 0 0, .slice none 0 0] 56)
     rw [World.size_alloc] at this
     exact (Below.heap_alloc _ _ _ (by simp)).trans this
    have qq : (((w.alloc (.cells #[.int .u8 tos, .int .u16 id, .bool keep, .int .u8 ttl, .int .u8 proto, .int .u32 src, .int .u32 dst, .slice ao zo.length co, .slice ad ld cd] 56)).alloc (.cells #[.int .u8 0, .int .u16 0, .bool false, .int .u8 0, .int .u8 0, .int .u32 0, .int .u32 0, .slice none 0 0, .slice none 0 0] 56)).alloc (.cells #[.int .u8 tos, .int .u16 id, .bool keep, .int .u8 ttl, .int .u8 pr, .int .u32 src, .int .u32 dst, .slice ao zo.length co, .slice ad ld cd] 56)).heap[w.heap.size + 1 + 1]? = some (.cells #[.int .u8 tos, .int .u16 id, .bool keep, .int .u8 ttl, .int .u8 pr, .int .u32 src, .int .u32 dst, .slice ao zo.length co, .slice ad ld cd] 56) := by
     have := heap_alloc_new ((w.alloc (.cells #[.int .u8 tos, .int .u16 id, .bool keep, .int .u8 ttl, .int .u8 proto, .int .u32 src, .int .u32 dst, .slice ao zo.length co, .slice ad ld cd] 56)).alloc (.cells #[.int .u8 0, .int .u16 0, .bool false, .int .u8 0, .int .u8 0, .int .u32 0, .int .u32 0, .slice none 0 0, .slice none 0 0] 56)) (.cells #[.int .u8 tos, .int .u16 id, .bool keep, .int .u8 ttl, .int .u8 pr, .int .u32 src, .int .u32 dst, .slice ao zo.length co, .slice ad ld cd] 56)
     simpa using this
    have hw1 : Below w.heap.size w (((w.alloc (.cells #[.int .u8 tos, .int .u16 id, .bool keep, .int .u8 ttl, .int .u8 proto, .int .u32 src, .int .u32 dst, .slice ao zo.length co, .slice ad ld cd] 56)).alloc (.cells #[.int .u8 0, .int .u16 0, .bool false, .int .u8 0, .int .u8 0, .int .u32 0, .int .u32 0, .slice none 0 0, .slice none 0 0] 56)).alloc (.cells #[.int .u8 tos, .int .u16 id, .bool keep, .int .u8 ttl, .int .u8 pr, .int .u32 src, .int .u32 dst, .slice ao zo.length co, .slice ad ld cd] 56)) := hb0.alloc (by simp; omega) _
    generalize ((w.alloc (.cells #[.int .u8 tos, .int .u16 id, .bool keep, .int .u8 ttl, .int .u8 proto, .int .u32 src, .int .u32 dst, .slice ao zo.length co, .slice ad ld cd] 56)).alloc (.cells #[.int .u8 0, .int .u16 0, .bool false, .int .u8 0, .int .u8 0, .int .u32 0, .int .u32 0, .slice none 0 0, .slice none 0 0] 56)).alloc (.cells #[.int .u8 tos, .int .u16 id, .bool keep, .int .u8 ttl, .int .u8 pr, .int .u32 src, .int .u32 dst, .slice ao zo.length co, .slice ad ld cd] 56) = W1 at *
    have hs1 : w.heap.size + 1 + 1 < W1.heap.size := (bl9 qq)
    clear t1 t2 t3 c1 c2
    have P1 := block_cell (((Below.refl W1.heap.size W1).alloc (Nat.le_refl _) (.cells #[] 5)).block w.heap.size (by omega) |>.trans p1)
    have la2 : Below W1.heap.size W1 (W1.alloc (.cells #[] 5)) := (Below.refl _ _).alloc (Nat.le_refl _) _
    have ra2 : Rd W1.heap.size (W1.alloc (.cells #[] 5)) _ zo := ((hIo.below hw1).mono hw1.size).below la2
    go_upto_region 8 with (at_builtin; refine wpList_app _ rfl (.tmp 33) (.tmp 35) 31 rfl W1.heap.size 5 i0 Tryz.underlying31 hi hz0 hz1 hz2 _ [] rfl (own_empty W1 _) W1.heap.size _ zo rfl ra2 (by simp; omega) (by simp) ?_; intro v2 w2 ho2 hg2; have hb2 := below_app la2 (own_empty W1 _) hg2 (Nat.le_refl _) la2.size; clear hg2; simp only [List.nil_append] at ho2; have hO2 := Ow.of_row ho2; clear ho2; obtain ⟨a2, c2, rfl, hp2, hm2⟩ := hO2.slice; have q2 := (hb2.block (w.heap.size + 1 + 1) (bl9 qq)).trans qq; have Q2 := block_cell q2; have F2 := block_frozen q2)
    have b2 : But (fun b => b = w.heap.size + 1 + 1) w2 (w2.setCell ⟨w.heap.size + 1 + 1, 7, none⟩ (.slice a2 zo.length c2)) := (But.refl (fun b => b = w.heap.size + 1 + 1) _).setCell (p := ⟨w.heap.size + 1 + 1, 7, none⟩) rfl _
    have qq2 : (w2.setCell ⟨w.heap.size + 1 + 1, 7, none⟩ (.slice a2 zo.length c2)).heap[w.heap.size + 1 + 1]? = some (.cells #[.int .u8 tos, .int .u16 id, .bool keep, .int .u8 ttl, .int .u8 pr, .int .u32 src, .int .u32 dst, .slice a2 zo.length c2, .slice ad ld cd] 56 (0, 0)) := heap_set1 q2 7 _
    have hO3 := hO2.apart q2 (by decide) b2
    have r3 := (b2.block (w.heap.size + 1) (Nat.lt_of_lt_of_le (bl9 r1) hb2.size) (by omega)).trans ((hb2.block (w.heap.size + 1) (bl9 r1)).trans r1)
    have hw2 := hw1.trans (hb2.mono hw1.size)
    have hw3 : Below w.heap.size w _ := hw2.trans (b2.below hw2.size (fun k hk e => by omega))
    clear Q2 F2 P1 q2 b2 ra2 la2
    generalize w2.setCell ⟨w.heap.size + 1 + 1, 7, none⟩ (.slice a2 zo.length c2) = W3 at *
    clear qq
    have qq := qq2
    clear qq2
    have la4 : Below W3.heap.size W3 (W3.alloc (.cells #[] 5)) := (Below.refl _ _).alloc (Nat.le_refl _) _
    have ra4 : Rd W3.heap.size (W3.alloc (.cells #[] 5)) _ zx := ((hIx.below hw3).mono hw3.size).below la4
    go_upto_region 9 with (at_builtin; refine wpList_app _ rfl (.tmp 38) (.tmp 39) 31 rfl W3.heap.size 5 i0 Tryz.underlying31 hi hz0 hz1 hz2 _ [] rfl (own_empty W3 _) W3.heap.size _ zx rfl ra4 (by simp; omega) (by simp) ?_; intro v4 w4 ho4 hg4; have hb4 := below_app la4 (own_empty W3 _) hg4 (Nat.le_refl _) la4.size; clear hg4; simp only [List.nil_append] at ho4; have hO4 := Ow.of_row ho4; clear ho4; obtain ⟨a4, c4, rfl, hp4, hm4⟩ := hO4.slice; have q4 := (hb4.block (w.heap.size + 1 + 1) (bl9 qq)).trans qq; have Q4 := block_cell q4; have F4 := block_frozen q4)
    have b4 : But (fun b => b = w.heap.size + 1 + 1) w4 (w4.setCell ⟨w.heap.size + 1 + 1, 8, none⟩ (.slice a4 zx.length c4)) := (But.refl (fun b => b = w.heap.size + 1 + 1) _).setCell (p := ⟨w.heap.size + 1 + 1, 8, none⟩) rfl _
    have qq4 : (w4.setCell ⟨w.heap.size + 1 + 1, 8, none⟩ (.slice a4 zx.length c4)).heap[w.heap.size + 1 + 1]? = some (.cells #[.int .u8 tos, .int .u16 id, .bool keep, .int .u8 ttl, .int .u8 pr, .int .u32 src, .int .u32 dst, .slice a2 zo.length c2, .slice a4 zx.length c4] 56 (0, 0)) := heap_set1 q4 8 _
    have hO5 := hO4.apart q4 (by decide) b4
    have hO6 := (hO3.later hb4).apart q4 (by decide) b4
    have r5 := (b4.block (w.heap.size + 1) (Nat.lt_of_lt_of_le (bl9 r3) hb4.size) (by omega)).trans ((hb4.block (w.heap.size + 1) (bl9 r3)).trans r3)
    have hw4 := hw3.trans (hb4.mono hw3.size)
    have hw5 : Below w.heap.size w _ := hw4.trans (b4.below hw4.size (fun k hk e => by omega))
    clear Q4 F4 q4 b4 ra4 la4
    generalize w4.setCell ⟨w.heap.size + 1 + 1, 8, none⟩ (.slice a4 zx.length c4) = W5 at *
    have hs3 := (bl9 r3)
    have Q5 := block_cell qq4
    have R5 := block_cell r5
    have F5 := block_frozen r5
    go_wp2_with fail
    generalize hV : World.setCell _ ⟨w.heap.size + 1, 8, none⟩ _ = V8
    have hV9 : V8 = putRow W5 (w.heap.size + 1) 0 [Value.int .u8 tos, .int .u16 id, .bool keep, .int .u8 ttl, .int .u8 pr, .int .u32 src, .int .u32 dst, .slice a2 zo.length c2, .slice a4 zx.length c4] := hV.symm
    have hb8 : But (fun b => b = w.heap.size + 1) W5 V8 := by rw [hV9]; exact putRow_but (E := fun b => b = w.heap.size + 1) (n := w.heap.size + 1) rfl _ _ _ _ (But.refl _ _)
    have p8 := putRow_all [Value.int .u8 tos, .int .u16 id, .bool keep, .int .u8 ttl, .int .u8 pr, .int .u32 src, .int .u32 dst, .slice a2 zo.length c2, .slice a4 zx.length c4] r5 rfl
    rw [← hV9] at p8
    clear hV hV9
    have P8 := block_cell p8
    have hw8 : Below w.heap.size w V8 := (hw5).trans (hb8.below (hw5).size (fun k h e => by omega))
    exact bodyPost_ret (v := .tuple #[.agg #[.int .u8 tos, .int .u16 id, .bool keep, .int .u8 ttl, .int .u8 pr, .int .u32 src, .int .u32 dst, .slice a2 zo.length c2, .slice a4 zx.length c4], .int .i64 0]) (by simp [results, Tryz.results115, go_sem, P8]) rfl (⟨hw8, .inr ⟨HF.out, a2, c2, a4, c4, rfl, (hO6.apart r5 (by decide) hb8).mono (by omega), (hO5.apart r5 (by decide) hb8).mono (by omega)⟩⟩)
  ·have t2 : ((zo.length : Int) % 4 != 0) = true := by simp; omega
   have HF : Hid (flt zo.length zx.length = 4) := by show _ = _; unfold flt; rw [if_pos (.inr c2)]
   go_enter Tryz.func115, Tryz.ntmps115
   go_wp2_with fail
   exact bodyPost_ret (v := .tuple #[.agg #[.int .u8 0, .int .u16 0, .bool false, .int .u8 0, .int .u8 0, .int .u32 0, .int .u32 0, .slice none 0 0, .slice none 0 0], .int .i64 4]) (by simp [results, Tryz.results115, go_sem]) rfl ⟨hb0, .inl ⟨by rw [HF.out]; decide, by rw [HF.out]⟩⟩
theorem flt_none (lo : Nat) (h : flt lo 0 ≠ 0) (n : Nat) : flt lo 0 = 4 ∧ flt lo n = 4 := by
 unfold flt at *
 by_cases c : 40 < lo ∨ lo % 4 ≠ 0
 ·rw [if_pos c, if_pos c]; exact ⟨rfl, rfl⟩
 ·rw [if_neg c, if_neg (by omega)] at h
  exact absurd rfl h
theorem flt_some (lo : Nat) (h : flt lo 0 = 0) (n : Nat) : flt lo n = (if 65535 < 20 + lo + n then 8 else 0) := by
 unfold flt at *
 by_cases c : 40 < lo ∨ lo % 4 ≠ 0
 ·rw [if_pos c] at h; exact absurd h (by decide)
 ·rw [if_neg c]
theorem but_app {base n size : Nat} {e : TypeId} {W W' : World} {v : Value} {xs : List Value} (ho : W.ownsRow base e size v n xs) (hg : W.grownBy W' v.ownBlock) : But (fun b => base ≤ b) W W' :=
 ⟨hg.os, hg.tape, hg.output, hg.size, fun i hi he => hg.block i hi (fun e => he (ho.lt i e.symm).1)⟩
def RwU (Wb : World) (v : Value) (ys : List Int) (W : World) : Prop := W.ownsRow Wb.heap.size 5 1 v ys.length (ys.map (Value.int .u8)) ∧ Below Wb.heap.size Wb W
theorem RwU.nil {Wb W : World} (h : Later Wb W) : RwU Wb (.slice none 0 0) [] W := ⟨World.ownsRow_nil _ _ _ _, h⟩
theorem RwU.later {Wb W W' : World} {v : Value} {ys : List Int} (h : RwU Wb v ys W) (l : Later W W') : RwU Wb v ys W' := ⟨row_below h.1 l (Nat.le_refl _), h.2.trans (l.mono h.2.size)⟩
theorem RwU.app {Wb W : World} {v : Value} {ys : List Int} (h : RwU Wb v ys W) (ty : TypeId) (n₀ : Nat) (sx : Value) (zs : List Int) (hI : Rd n₀ W sx zs) (hbd : ys.length + zs.length ≤ 140737488355328) :
  ∃ v' W', (Builtin.append_ #[31, 31] ty #[v, sx]).run Tryz.prog W = .ok v' W' ∧ RwU Wb v' (ys ++ zs) W' ∧ But (fun b => Wb.heap.size ≤ b) W W' := by
 obtain ⟨i0, hi, hz0, hz1, hz2⟩ := info_parts info_u8
 obtain ⟨v', W', hr, ho, hg⟩ := run_app (P := Tryz.prog) W 31 ty 5 Wb.heap.size i0 Tryz.underlying31 hi hz0 hz1 hz2 v ys h.1 n₀ sx zs hI hbd h.2.size
 exact ⟨v', W', hr, ⟨ho, below_app h.2 h.1 hg (Nat.le_refl _) h.2.size⟩, but_app h.1 hg⟩
theorem wpList_rwU {ops : Array Oper} {rest : List Oper} {o : Oper} {a : Act} {Q : Exit → Act → World → Prop} (w : World) (hgd : o.guard = none) (s x : Operand)
  (ho : o.op = .call { callee := .builtin .append, args := #[s, x], argTypes := #[31, 31] }) {Wb : World} {v : Value} {ys : List Int} (hR : RwU Wb v ys w) (hs : a.eval s = v)
  (n₀ : Nat) (sx : Value) (zs : List Int) (hx : a.eval x = sx) (hI : Rd n₀ w sx zs) (hbd : ys.length + zs.length ≤ 140737488355328)
  (h : ∀ v' w', RwU Wb v' (ys ++ zs) w' → wpList Tryz.prog ops Q rest (a.put o.dst v') w') : wpList Tryz.prog ops Q (o :: rest) a w := by
 obtain ⟨i0, hi, hz0, hz1, hz2⟩ := info_parts info_u8
 exact wpList_app w hgd s x 31 ho Wb.heap.size 5 i0 Tryz.underlying31 hi hz0 hz1 hz2 v ys hs hR.1 n₀ sx zs hx hI hbd hR.2.size (fun v' w' h1 h2 => h v' w' ⟨h1, below_app hR.2 hR.1 h2 (Nat.le_refl _) hR.2.size⟩)
theorem RwU.ow {Wb W : World} {v : Value} {ys : List Int} (h : RwU Wb v ys W) : Ow Wb.heap.size W v ys := Ow.of_row h.1
theorem RwU.block {Wb W : World} {v : Value} {ys : List Int} (h : RwU Wb v ys W) {k : Nat} {o : Obj} (ho : Wb.heap[k]? = some o) : W.heap[k]? = some o := (h.2.block k (bl9 ho)).trans ho
theorem later_two (W : World) (x y : Int) : Later W (W.alloc (.cells #[.int .u8 x, .int .u8 y] 5)) := (Below.refl _ _).alloc (Nat.le_refl _) _
theorem rbuildUdp_any (tos id ttl proto src dst sp dp : Int) (keep bare : Bool) (so sm : Value) (ad : Option Addr) (ld cd : Nat) (zo zm : List Int) (w : World) (hIo : Rd w.heap.size w so zo) (hBd : Mt.By zm) (hIm : Rd w.heap.size w sm zm)
  (h1 : zo.length ≤ 140737488355328) (h2 : 8 + zm.length ≤ 140737488355328) (hsr : 0 ≤ src ∧ src ≤ 4294967295) (hds : 0 ≤ dst ∧ dst ≤ 4294967295) (hsp : 0 ≤ sp ∧ sp ≤ 65535) (hdp : 0 ≤ dp ∧ dp ≤ 65535) :
  Calls Tryz.prog 62 #[.agg #[.int .u8 tos, .int .u16 id, .bool keep, .int .u8 ttl, .int .u8 proto, .int .u32 src, .int .u32 dst, so, .slice ad ld cd], .agg #[.int .u16 sp, .int .u16 dp, .bool bare, sm]] w fun e w' => Below w.heap.size w w' ∧ ((flt zo.length (8 + zm.length) ≠ 0 ∧ e = .returned (.tuple #[.agg #[.int .u8 0, .int .u16 0, .bool false, .int .u8 0, .int .u8 0, .int .u32 0, .int .u32 0, .slice none 0 0, .slice none 0 0], .int .i64 (flt zo.length (8 + zm.length))])) ∨
   (flt zo.length (8 + zm.length) = 0 ∧ ∃ a7 c7 a8 c8, e = .returned (.tuple #[.agg #[.int .u8 tos, .int .u16 id, .bool keep, .int .u8 ttl, .int .u8 17, .int .u32 src, .int .u32 dst, .slice a7 zo.length c7, .slice a8 (8 + zm.length) c8], .int .i64 0]) ∧ Ow w.heap.size w' (.slice a7 zo.length c7) zo ∧ Ow w.heap.size w' (.slice a8 (8 + zm.length) c8) (udp sp dp bare src dst zm))) := by
 obtain ⟨ao, co, rfl, _, _⟩ := hIo.slice
 obtain ⟨am, cm, rfl, _, _⟩ := hIm.slice
 have hb0 : Below w.heap.size w (((w.alloc (.cells #[.int .u8 tos, .int .u16 id, .bool keep, .int .u8 ttl, .int .u8 proto, .int .u32 src, .int .u32 dst, .slice ao zo.length co, .slice ad ld cd] 56)).alloc (.cells #[.int .u16 sp, .int .u16 dp, .bool bare, .slice am zm.length cm] 60)).alloc (.cells #[.int .u8 0, .int .u16 0, .bool false, .int .u8 0, .int .u8 0, .int .u32 0, .int .u32 0, .slice none 0 0, .slice none 0 0] 56)) := (((Below.refl _ _).alloc (Nat.le_refl _) _).alloc (by simp) _).alloc (by simp; omega) _
 have p0 : (((w.alloc (.cells #[.int .u8 tos, .int .u16 id, .bool keep, .int .u8 ttl, .int .u8 proto, .int .u32 src, .int .u32 dst, .slice ao zo.length co, .slice ad ld cd] 56)).alloc (.cells #[.int .u16 sp, .int .u16 dp, .bool bare, .slice am zm.length cm] 60)).alloc (.cells #[.int .u8 0, .int .u16 0, .bool false, .int .u8 0, .int .u8 0, .int .u32 0, .int .u32 0, .slice none 0 0, .slice none 0 0] 56)).heap[w.heap.size]? = some (.cells #[.int .u8 tos, .int .u16 id, .bool keep, .int .u8 ttl, .int .u8 proto, .int .u32 src, .int .u32 dst, .slice ao zo.length co, .slice ad ld cd] 56) := (Below.heap_alloc _ _ _ (by simp; omega)).trans ((Below.heap_alloc _ _ _ (by simp)).trans (heap_alloc_new w _))
 have m0 : (((w.alloc (.cells #[.int .u8 tos, .int .u16 id, .bool keep, .int .u8 ttl, .int .u8 proto, .int .u32 src, .int .u32 dst, .slice ao zo.length co, .slice ad ld cd] 56)).alloc (.cells #[.int .u16 sp, .int .u16 dp, .bool bare, .slice am zm.length cm] 60)).alloc (.cells #[.int .u8 0, .int .u16 0, .bool false, .int .u8 0, .int .u8 0, .int .u32 0, .int .u32 0, .slice none 0 0, .slice none 0 0] 56)).heap[w.heap.size + 1]? = some (.cells #[.int .u16 sp, .int .u16 dp, .bool bare, .slice am zm.length cm] 60) := by
  have := heap_alloc_new (w.alloc (.cells #[.int .u8 tos, .int .u16 id, .bool keep, .int .u8 ttl, .int .u8 proto, .int .u32 src, .int .u32 dst, .slice ao zo.length co, .slice ad ld cd] 56)) (.cells #[.int .u16 sp, .int .u16 dp, .bool bare, .slice am zm.length cm] 60)
  rw [World.size_alloc] at this
  exact (Below.heap_alloc _ _ _ (by simp)).trans this
 have r0 : (((w.alloc (.cells #[.int .u8 tos, .int .u16 id, .bool keep, .int .u8 ttl, .int .u8 proto, .int .u32 src, .int .u32 dst, .slice ao zo.length co, .slice ad ld cd] 56)).alloc (.cells #[.int .u16 sp, .int .u16 dp, .bool bare, .slice am zm.length cm] 60)).alloc (.cells #[.int .u8 0, .int .u16 0, .bool false, .int .u8 0, .int .u8 0, .int .u32 0, .int .u32 0, .slice none 0 0, .slice none 0 0] 56)).heap[w.heap.size + 1 + 1]? = some (.cells #[.int .u8 0, .int .u16 0, .bool false, .int .u8 0, .int .u8 0, .int .u32 0, .int .u32 0, .slice none 0 0, .slice none 0 0] 56 (0, 0)) := by
  have := heap_alloc_new ((w.alloc (.cells #[.int .u8 tos, .int .u16 id, .bool keep, .int .u8 ttl, .int .u8 proto, .int .u32 src, .int .u32 dst, .slice ao zo.length co, .slice ad ld cd] 56)).alloc (.cells #[.int .u16 sp, .int .u16 dp, .bool bare, .slice am zm.length cm] 60)) (.cells #[.int .u8 0, .int .u16 0, .bool false, .int .u8 0, .int .u8 0, .int .u32 0, .int .u32 0, .slice none 0 0, .slice none 0 0] 56)
  simpa using this
 have P0 := hide p0
 have M0 := hide m0
 have R0 := hide r0
 clear p0 m0 r0
 go_enter Tryz.func62, Tryz.ntmps62
 go_wp2_with fail
 generalize ((w.alloc (.cells #[.int .u8 tos, .int .u16 id, .bool keep, .int .u8 ttl, .int .u8 proto, .int .u32 src, .int .u32 dst, .slice ao zo.length co, .slice ad ld cd] 56)).alloc (.cells #[.int .u16 sp, .int .u16 dp, .bool bare, .slice am zm.length cm] 60)).alloc (.cells #[.int .u8 0, .int .u16 0, .bool false, .int .u8 0, .int .u8 0, .int .u32 0, .int .u32 0, .slice none 0 0, .slice none 0 0] 56) = w0 at *
 refine (rwith_any tos id ttl proto src dst 17 keep _ _ ad ld cd zo [] w0 ((hIo.below hb0).mono hb0.size) (rd_zero w0) h1 (by simp)).mono ?_
 rintro e w1 ⟨hb1, ⟨hf, rfl⟩ | ⟨hf, a7, c7, a8, c8, rfl, hO1, hD1⟩⟩
 ·obtain ⟨f4, f4'⟩ := flt_none zo.length hf (8 + zm.length)
  rw [show ([] : List Int).length = 0 from rfl, f4]
  have HF := hide f4'
  clear f4 f4' hf
  have l2 : Later w1 (w1.alloc (.cells #[.int .u8 0, .int .u16 0, .bool false, .int .u8 0, .int .u8 0, .int .u32 0, .int .u32 0, .slice none 0 0, .slice none 0 0] 56)) := (Below.refl _ _).alloc (Nat.le_refl _) _
  have l02 := Later.trans hb1 l2
  have r2 := (l02.block (w.heap.size + 1 + 1) (bl9 R0.out)).trans R0.out
  have hw2 := hb0.trans (l02.mono hb0.size)
  have RR := block_cell r2
  have FF := block_frozen r2
  go_wp2_with fail
  generalize w1.alloc (.cells #[.int .u8 0, .int .u16 0, .bool false, .int .u8 0, .int .u8 0, .int .u32 0, .int .u32 0, .slice none 0 0, .slice none 0 0] 56) = w2 at *
  generalize hV : World.setCell _ ⟨w.heap.size + 1 + 1, 8, none⟩ _ = V8
  have hV9 : V8 = putRow w2 (w.heap.size + 1 + 1) 0 [Value.int .u8 0, .int .u16 0, .bool false, .int .u8 0, .int .u8 0, .int .u32 0, .int .u32 0, .slice none 0 0, .slice none 0 0] := hV.symm
  have hb8 : But (fun b => b = w.heap.size + 1 + 1) w2 V8 := by rw [hV9]; exact putRow_but (E := fun b => b = w.heap.size + 1 + 1) (n := w.heap.size + 1 + 1) rfl _ _ _ _ (But.refl _ _)
  have p8 := putRow_all [Value.int .u8 0, .int .u16 0, .bool false, .int .u8 0, .int .u8 0, .int .u32 0, .int .u32 0, .slice none 0 0, .slice none 0 0] r2 rfl
  rw [← hV9] at p8
  clear hV hV9
  have P8 := block_cell p8
  have hw8 : Below w.heap.size w V8 := (hw2).trans (hb8.below (hw2).size (fun k h e => by omega))
  exact bodyPost_ret (v := .tuple #[.agg #[.int .u8 0, .int .u16 0, .bool false, .int .u8 0, .int .u8 0, .int .u32 0, .int .u32 0, .slice none 0 0, .slice none 0 0], .int .i64 4]) (by simp [results, Tryz.results62, go_sem, P8]) rfl (⟨hw8, .inl ⟨by rw [HF.out]; decide, by rw [HF.out]⟩⟩)
 ·have f0 := flt_some zo.length hf (8 + zm.length)
  clear hf
  have l2 : Later w1 (w1.alloc (.cells #[.int .u8 tos, .int .u16 id, .bool keep, .int .u8 ttl, .int .u8 17, .int .u32 src, .int .u32 dst, .slice a7 zo.length c7, .slice a8 ([] : List Int).length c8] 56)) := (Below.refl _ _).alloc (Nat.le_refl _) _
  have l02 := Later.trans hb1 l2
  have p2 := (l02.block w.heap.size (bl9 P0.out)).trans P0.out
  have m2 := (l02.block (w.heap.size + 1) (bl9 M0.out)).trans M0.out
  have r2 := (l02.block (w.heap.size + 1 + 1) (bl9 R0.out)).trans R0.out
  have hw2 := hb0.trans (l02.mono hb0.size)
  have PP := block_cell p2
  have MM := block_cell m2
  rw [show ([] : List Int).length = 0 from rfl] at *
  by_cases c3 : 65535 < 20 + zo.length + (8 + zm.length)
  ·have t3 : (65535 : Int) < 28 + zo.length + zm.length := by omega
   rw [if_pos c3] at f0
   have HF := hide f0
   clear f0 c3
   have RR := block_cell r2
   have FF := block_frozen r2
   go_wp2_with fail
   generalize w1.alloc (.cells #[.int .u8 tos, .int .u16 id, .bool keep, .int .u8 ttl, .int .u8 17, .int .u32 src, .int .u32 dst, .slice a7 zo.length c7, .slice a8 0 c8] 56) = w2 at *
   generalize hV : World.setCell _ ⟨w.heap.size + 1 + 1, 8, none⟩ _ = V8
   have hV9 : V8 = putRow w2 (w.heap.size + 1 + 1) 0 [Value.int .u8 0, .int .u16 0, .bool false, .int .u8 0, .int .u8 0, .int .u32 0, .int .u32 0, .slice none 0 0, .slice none 0 0] := hV.symm
   have hb8 : But (fun b => b = w.heap.size + 1 + 1) w2 V8 := by rw [hV9]; exact putRow_but (E := fun b => b = w.heap.size + 1 + 1) (n := w.heap.size + 1 + 1) rfl _ _ _ _ (But.refl _ _)
   have p8 := putRow_all [Value.int .u8 0, .int .u16 0, .bool false, .int .u8 0, .int .u8 0, .int .u32 0, .int .u32 0, .slice none 0 0, .slice none 0 0] r2 rfl
   rw [← hV9] at p8
   clear hV hV9
   have P8 := block_cell p8
   have hw8 : Below w.heap.size w V8 := (hw2).trans (hb8.below (hw2).size (fun k h e => by omega))
   exact bodyPost_ret (v := .tuple #[.agg #[.int .u8 0, .int .u16 0, .bool false, .int .u8 0, .int .u8 0, .int .u32 0, .int .u32 0, .slice none 0 0, .slice none 0 0], .int .i64 8]) (by simp [results, Tryz.results62, go_sem, P8]) rfl (⟨hw8, .inl ⟨by rw [HF.out]; decide, by rw [HF.out]⟩⟩)
  ·have t3 : ¬ (65535 : Int) < 28 + zo.length + zm.length := by omega
   rw [if_neg c3] at f0
   have HF := hide f0
   clear f0
   go_upto_region 7 with fail
   generalize w1.alloc (.cells #[.int .u8 tos, .int .u16 id, .bool keep, .int .u8 ttl, .int .u8 17, .int .u32 src, .int .u32 dst, .slice a7 zo.length c7, .slice a8 0 c8] 56) = w2 at *
   clear PP MM l02 hb0
   have hsr2 := (bl9 r2)
   go_cut [8] (fun v wx => RwU w2 v ([sp, dp].flatMap b2) wx)
   case first =>
    refine anyT_begin (R := But (fun b => w2.heap.size ≤ b)) 10 rfl (by kernel_rfl) ?_
    have R0 : RwU w2 (.slice none 0 0) [] w2.drew := RwU.nil (Later.drew w2)
    have md := R0.block m2
    generalize w2.drew = Wd at *
    have ha : ∀ v1, But (fun b => w2.heap.size ≤ b) Wd v1 → ∀ i, v1.cell? ⟨w.heap.size + 1, i, none⟩ = #[Value.int .u16 sp, .int .u16 dp, .bool bare, .slice am zm.length cm][i]? := fun v1 h => block_cell ((h.block (w.heap.size + 1) (bl9 md) (by omega)).trans md)
    refine tV (But.pre _) 0 rfl rfl ⟨_, fun v h => by (go_simp; rfl), ?_⟩; simp only [Act.put, sA, sB, sC]
    refine tV (But.pre _) 1 rfl rfl ⟨_, fun v h => by (go_simp; rfl), ?_⟩; simp only [Act.put, sA, sB, sC]
    refine tV (But.pre _) 2 rfl rfl ⟨_, fun v h => by (go_simp; rfl), ?_⟩; simp only [Act.put, sA, sB, sC]
    refine tV (But.pre _) 5 rfl rfl ⟨_, fun v h => by (go_simp; rfl), ?_⟩; simp only [Act.put, sA, sB, sC]
    refine tV (But.pre _) 6 rfl rfl ⟨_, fun v h => by (go_simp; rfl), ?_⟩; simp only [Act.put, sA, sB, sC]
    refine anyT_one 3 rfl (by kernel_rfl) rfl ?_
    refine wp_enter 116 #[.int .u16 sp] (by go_simp) ?_
    refine (two_any sp hsp Wd).mono ?_
    rintro e w4 ⟨rfl, rfl⟩
    have R4 := R0.later (later_two Wd (sp / 256) (sp % 256))
    have X4 := Rd.new2 (sp / 256) (sp % 256) 5 Wd
    refine ⟨But.of (later_two Wd _ _), ?_⟩
    simp only [Act.put, sA, sB, sC]
    generalize Wd.alloc (.cells #[.int .u8 (sp / 256), .int .u8 (sp % 256)] 5) = W4 at *
    refine anyT_one 4 rfl (by kernel_rfl) rfl ?_
    obtain ⟨v5, W5, hrun5, R5, bt5⟩ := R4.app 31 _ _ _ X4 (by simp)
    refine wp_app (.tmp 29) (.tmp 32) 31 rfl _ _ rfl rfl _ W5 hrun5 ⟨bt5, ?_⟩
    simp only [Act.put, sA, sB, sC]
    refine anyT_one 7 rfl (by kernel_rfl) rfl ?_
    refine wp_enter 116 #[.int .u16 dp] (by go_simp) ?_
    refine (two_any dp hdp W5).mono ?_
    rintro e w4 ⟨rfl, rfl⟩
    have R6 := R5.later (later_two W5 (dp / 256) (dp % 256))
    have X6 := Rd.new2 (dp / 256) (dp % 256) 5 W5
    refine ⟨But.of (later_two W5 _ _), ?_⟩
    simp only [Act.put, sA, sB, sC]
    generalize W5.alloc (.cells #[.int .u8 (dp / 256), .int .u8 (dp % 256)] 5) = W6 at *
    refine anyT_one 8 rfl (by kernel_rfl) rfl ?_
    obtain ⟨v7, W7, hrun7, R7, bt7⟩ := R6.app 31 _ _ _ X6 (by simp)
    refine wp_app (.tmp 33) (.tmp 36) 31 rfl _ _ rfl rfl _ W7 hrun7 ⟨bt7, ?_⟩
    simp only [Act.put, sA, sB, sC]
    refine anyT_one 9 rfl (by kernel_rfl) rfl ?_
    unfold Oper.wp
    go_simp
    refine ⟨But.refl _ _, ?_⟩
    refine anyT_done (by kernel_rfl) ?_
    clear ha hrun5 hrun7
    go_wp2_with fail
    go_meet
    case rel => exact R7
   case rest =>
    have R3 : RwU w2 _ ([sp, dp].flatMap b2) wc := hcut
    clear hcut
    have mc := block_cell (R3.block m2)
    have hl8 : (8 + (zm.length : Int)) % 65536 = 8 + zm.length := by omega
    have hw8 : 8 + (zm.length : Int) ≤ 65535 := by omega
    go_wp2_with fail
    refine (two_any (8 + zm.length) (by omega) wc).mono ?_
    rintro e w4 ⟨rfl, rfl⟩
    have R4 := R3.later (later_two wc ((8 + zm.length) / 256) ((8 + zm.length) % 256))
    have X4 := Rd.new2 ((8 + (zm.length : Int)) / 256) ((8 + zm.length) % 256) 5 wc
    clear mc
    generalize wc.alloc (.cells #[.int .u8 ((8 + (zm.length : Int)) / 256), .int .u8 ((8 + zm.length) % 256)] 5) = W4 at *
    generalize some (⟨wc.heap.size, 0, none⟩ : Addr) = a4 at *
    go_wp2_with (at_builtin; go_loud (refine wpList_rwU _ rfl (.tmp 38) (.tmp 44) rfl R4 rfl _ _ _ rfl X4 (by simp [b2]) ?_; intro v5 W5 R5; refine Hid.out ?_))
    have R6 := R5.later (later_two W5 0 0)
    have X6 := Rd.new2 0 0 5 W5
    show wpList _ _ _ _ _ _
    go_wp2_with (at_builtin; go_loud (refine wpList_rwU _ rfl (.tmp 45) (.tmp 46) rfl R6 rfl _ _ _ rfl X6 (by simp [b2]) ?_; intro v7 W7 R7; refine Hid.out ?_))
    have m7 := block_cell (R7.block m2)
    have hRm : Rd w.heap.size W7 (.slice am zm.length cm) zm := hIm.below (hw2.trans (R7.2.mono hw2.size))
    show wpList _ _ _ _ _ _
    go_wp2_with (at_builtin; go_loud (refine wpList_rwU _ rfl (.tmp 48) (.tmp 50) rfl R7 rfl _ _ _ rfl hRm (by simp [b2]; omega) ?_; intro v8 W8 R8; refine Hid.out ?_))
    have hlist : (([sp, dp].flatMap b2 ++ [(8 + (zm.length : Int)) / 256, (8 + zm.length) % 256]) ++ [0, 0]) ++ zm = udp0 sp dp zm := by unfold udp0; rw [hl8]; simp [b2]
    rw [hlist] at R8
    have m8 := block_cell (R8.block m2)
    have p8 := block_cell (R8.block p2)
    have r8 := R8.block r2
    have hO8 := R8.ow
    have hw8' := hw2.trans (R8.2.mono hw2.size)
    clear m7 R3 R4 R5 R6 R7 X4 X6 hRm hlist
    show wpList _ _ _ _ _ _
    have pb := R8.block p2
    obtain ⟨a8', c8', rfl, _, _⟩ := hO8.slice
    have hBu : Mt.By (udp0 sp dp zm) := By_udp0 sp dp zm hsp hdp hBd
    have hlu := udp0_length sp dp zm
    have HLC := hide (udp_length sp dp bare src dst zm)
    have HLU := hide hlu
    clear hlu
    have hz : 8 + zm.length ≤ 65535 := by omega
    clear hl8 t3 hw8 R8
    cases bare
    ·have HUD : Hid (putAt2 (udp0 sp dp zm) 6 (usm src dst 17 (udp0 sp dp zm)) = udp sp dp false src dst zm) := by show _ = _; unfold putAt2 udp; rw [if_pos (by rw [HLU.out]; omega)]; rfl
     have hub := usm_bd src dst 17 (udp0 sp dp zm)
     generalize udp0 sp dp zm = bb at *
     go_wp2_with fail
     refine (rsum3_any tos id ttl proto src dst 17 keep _ _ _ bb W8 hBu hO8.rd (by rw [HLU.out]; omega) (by omega) hsr hds).mono ?_
     rintro e W9 ⟨rfl, hb9⟩
     have HU : Hid (usm src dst 17 bb = if Mt.cks (psd src dst 17 bb.length ++ bb) = 0 then 65535 else Mt.cks (psd src dst 17 bb.length ++ bb)) := rfl
     generalize Mt.cks (psd src dst 17 bb.length ++ bb) = c at *
     by_cases hc : c = 0
     ·subst hc
      rw [show usm src dst 17 bb = 65535 from HU.out] at HUD
      clear HU hub
      go_wp2_with fail
      refine (rput16_any _ bb 6 65535 (by omega) (by rw [HLU.out]; omega) W9 (hO8.later hb9).rd (by omega)).mono ?_
      rintro e W10 ⟨rv, rfl, hO10, hb10⟩
      rw [HUD.out] at hO10
      obtain ⟨a10, c10, rfl, _, _⟩ := hO10.slice
      have l10 : Later W8 W10 := Later.trans hb9 hb10
      have p10 := block_cell (later_keep l10 pb)
      go_wp2_with fail
      have pn := block_cell (later_keep l10 pb)
      have rn := later_keep l10 r8
      have hwn := hw8'.trans ((l10).mono hw8'.size)
      refine (rwith_any tos id ttl proto src dst 17 keep _ _ ad ld cd zo (udp sp dp false src dst zm) W10 ((hIo.below hwn).mono hwn.size) hO10.rd h1 (by rw [HLC.out]; omega)).mono ?_
      rw [HLC.out, HF.out]
      rintro e WX ⟨hbX, ⟨hx, _⟩ | ⟨_, a9, c9, ad9, cd9, rfl, hO9, hD9⟩⟩
      case inl => exact absurd rfl hx
      have rX := later_keep hbX rn
      have hwX := hwn.trans (hbX.mono hwn.size)
      have kX := block_cell rX
      have fX := block_frozen rX
      clear pn m8 p8
      go_wp2_with fail
      generalize hV : World.setCell _ ⟨w.heap.size + 1 + 1, 8, none⟩ _ = V
      have hV8 : V = putRow WX (w.heap.size + 1 + 1) 0 [.int .u8 tos, .int .u16 id, .bool keep, .int .u8 ttl, .int .u8 17, .int .u32 src, .int .u32 dst, .slice a9 zo.length c9, .slice ad9 (8 + zm.length) cd9] := hV.symm
      have hbV : But (fun b => b = w.heap.size + 1 + 1) WX V := by rw [hV8]; exact putRow_rb _ _
      have pV := putRow_all [Value.int .u8 tos, .int .u16 id, .bool keep, .int .u8 ttl, .int .u8 17, .int .u32 src, .int .u32 dst, .slice a9 zo.length c9, .slice ad9 (8 + zm.length) cd9] rX rfl
      rw [← hV8] at pV
      clear hV hV8 kX fX
      have PV := block_cell pV
      have hwV : Below w.heap.size w V := hwX.trans (hbV.below hwX.size (fun k hk e => by omega))
      exact bodyPost_ret (v := .tuple #[.agg #[.int .u8 tos, .int .u16 id, .bool keep, .int .u8 ttl, .int .u8 17, .int .u32 src, .int .u32 dst, .slice a9 zo.length c9, .slice ad9 (8 + zm.length) cd9], .int .i64 0]) (by simp [results, Tryz.results62, go_sem, PV]) rfl ⟨hwV, .inr ⟨HF.out, a9, c9, ad9, cd9, rfl, (hO9.apart rX (by decide) hbV).mono hwn.size, (hD9.apart rX (by decide) hbV).mono hwn.size⟩⟩
     ·have hu : usm src dst 17 bb = c := HU.out.trans (if_neg hc)
      rw [hu] at HUD hub
      have hc' : (c == 0) = false := by simp [hc]
      clear HU hu hc
      go_wp2_with fail
      refine (rput16_any _ bb 6 c (by omega) (by rw [HLU.out]; omega) W9 (hO8.later hb9).rd (by omega)).mono ?_
      rintro e W10 ⟨rv, rfl, hO10, hb10⟩
      rw [HUD.out] at hO10
      obtain ⟨a10, c10, rfl, _, _⟩ := hO10.slice
      have l10 : Later W8 W10 := Later.trans hb9 hb10
      have p10 := block_cell (later_keep l10 pb)
      go_wp2_with fail
      have pn := block_cell (later_keep l10 pb)
      have rn := later_keep l10 r8
      have hwn := hw8'.trans ((l10).mono hw8'.size)
      refine (rwith_any tos id ttl proto src dst 17 keep _ _ ad ld cd zo (udp sp dp false src dst zm) W10 ((hIo.below hwn).mono hwn.size) hO10.rd h1 (by rw [HLC.out]; omega)).mono ?_
      rw [HLC.out, HF.out]
      rintro e WX ⟨hbX, ⟨hx, _⟩ | ⟨_, a9, c9, ad9, cd9, rfl, hO9, hD9⟩⟩
      case inl => exact absurd rfl hx
      have rX := later_keep hbX rn
      have hwX := hwn.trans (hbX.mono hwn.size)
      have kX := block_cell rX
      have fX := block_frozen rX
      clear pn m8 p8
      go_wp2_with fail
      generalize hV : World.setCell _ ⟨w.heap.size + 1 + 1, 8, none⟩ _ = V
      have hV8 : V = putRow WX (w.heap.size + 1 + 1) 0 [.int .u8 tos, .int .u16 id, .bool keep, .int .u8 ttl, .int .u8 17, .int .u32 src, .int .u32 dst, .slice a9 zo.length c9, .slice ad9 (8 + zm.length) cd9] := hV.symm
      have hbV : But (fun b => b = w.heap.size + 1 + 1) WX V := by rw [hV8]; exact putRow_rb _ _
      have pV := putRow_all [Value.int .u8 tos, .int .u16 id, .bool keep, .int .u8 ttl, .int .u8 17, .int .u32 src, .int .u32 dst, .slice a9 zo.length c9, .slice ad9 (8 + zm.length) cd9] rX rfl
      rw [← hV8] at pV
      clear hV hV8 kX fX
      have PV := block_cell pV
      have hwV : Below w.heap.size w V := hwX.trans (hbV.below hwX.size (fun k hk e => by omega))
      exact bodyPost_ret (v := .tuple #[.agg #[.int .u8 tos, .int .u16 id, .bool keep, .int .u8 ttl, .int .u8 17, .int .u32 src, .int .u32 dst, .slice a9 zo.length c9, .slice ad9 (8 + zm.length) cd9], .int .i64 0]) (by simp [results, Tryz.results62, go_sem, PV]) rfl ⟨hwV, .inr ⟨HF.out, a9, c9, ad9, cd9, rfl, (hO9.apart rX (by decide) hbV).mono hwn.size, (hD9.apart rX (by decide) hbV).mono hwn.size⟩⟩
    ·rw [show udp0 sp dp zm = udp sp dp true src dst zm from rfl] at *
     go_wp2_with fail
     have pn := block_cell (later_keep (Later.refl W8) pb)
     have rn := later_keep (Later.refl W8) r8
     have hwn := hw8'.trans (((Later.refl W8)).mono hw8'.size)
     refine (rwith_any tos id ttl proto src dst 17 keep _ _ ad ld cd zo (udp sp dp true src dst zm) W8 ((hIo.below hwn).mono hwn.size) hO8.rd h1 (by rw [HLC.out]; omega)).mono ?_
     rw [HLC.out, HF.out]
     rintro e WX ⟨hbX, ⟨hx, _⟩ | ⟨_, a9, c9, ad9, cd9, rfl, hO9, hD9⟩⟩
     case inl => exact absurd rfl hx
     have rX := later_keep hbX rn
     have hwX := hwn.trans (hbX.mono hwn.size)
     have kX := block_cell rX
     have fX := block_frozen rX
     clear pn m8 p8
     go_wp2_with fail
     generalize hV : World.setCell _ ⟨w.heap.size + 1 + 1, 8, none⟩ _ = V
     have hV8 : V = putRow WX (w.heap.size + 1 + 1) 0 [.int .u8 tos, .int .u16 id, .bool keep, .int .u8 ttl, .int .u8 17, .int .u32 src, .int .u32 dst, .slice a9 zo.length c9, .slice ad9 (8 + zm.length) cd9] := hV.symm
     have hbV : But (fun b => b = w.heap.size + 1 + 1) WX V := by rw [hV8]; exact putRow_rb _ _
     have pV := putRow_all [Value.int .u8 tos, .int .u16 id, .bool keep, .int .u8 ttl, .int .u8 17, .int .u32 src, .int .u32 dst, .slice a9 zo.length c9, .slice ad9 (8 + zm.length) cd9] rX rfl
     rw [← hV8] at pV
     clear hV hV8 kX fX
     have PV := block_cell pV
     have hwV : Below w.heap.size w V := hwX.trans (hbV.below hwX.size (fun k hk e => by omega))
     exact bodyPost_ret (v := .tuple #[.agg #[.int .u8 tos, .int .u16 id, .bool keep, .int .u8 ttl, .int .u8 17, .int .u32 src, .int .u32 dst, .slice a9 zo.length c9, .slice ad9 (8 + zm.length) cd9], .int .i64 0]) (by simp [results, Tryz.results62, go_sem, PV]) rfl ⟨hwV, .inr ⟨HF.out, a9, c9, ad9, cd9, rfl, (hO9.apart rX (by decide) hbV).mono hwn.size, (hD9.apart rX (by decide) hbV).mono hwn.size⟩⟩
def Row (Wb : World) (v : Value) (ys : List Int) (W : World) : Prop := W.ownsRow Wb.heap.size 5 1 v ys.length (ys.map (Value.int .u8)) ∧ Below Wb.heap.size Wb W
theorem row_mono {base base' n : Nat} {e : TypeId} {W : World} {v : Value} {xs : List Value} (h : W.ownsRow base e 1 v n xs) (hb : base' ≤ base) : W.ownsRow base' e 1 v n xs :=
 ⟨h.1, h.2.imp id (fun ⟨g, cap, cur, h1, h2, h3⟩ => ⟨g, cap, cur, h1, Nat.le_trans hb h2, h3⟩)⟩
theorem Row.alloc {Wb W : World} {v : Value} {ys : List Int} (h : Row Wb v ys W) (o : Obj) : Row Wb v ys (W.alloc o) := ⟨h.1.alloc o, h.2.alloc h.2.size o⟩
theorem Row.two (Wb : World) (x y : Int) : Row Wb (.slice (some ⟨Wb.heap.size, 0, none⟩) 2 2) [x, y] (Wb.alloc (.cells #[.int .u8 x, .int .u8 y] 5)) :=
 ⟨⟨by simp, .inr ⟨Wb.heap.size, 2, _, rfl, Nat.le_refl _, heap_alloc_new Wb _, Nat.le_refl _, by unfold maxLen; omega, rfl, rfl⟩⟩, (Below.refl _ _).alloc (Nat.le_refl _) _⟩
theorem Row.cell {Wb W : World} {v u : Value} {ys : List Int} (h : Row Wb v ys W) {p : Addr} (hc : Wb.cell? p = some u) : W.cell? p = some u := (h.2.cell (World.block_lt_of_cell? Wb p hc)).trans hc
theorem wpList_row {P : Program} {ops : Array Oper} {rest : List Oper} {o : Oper} {a : Act} {Q : Exit → Act → World → Prop} (w : World) (hgd : o.guard = none) (s x : Operand) (t : TypeId)
  (ho : o.op = .call { callee := .builtin .append, args := #[s, x], argTypes := #[t, t] })
  (Wb : World) (i : TypeInfo) (ht : P.underlying t = some (.slice 5)) (hi : P.info? 5 = some i) (hz : i.zero = some (.int .u8 0)) (hsize : i.size = 1) (hby : i.bytes = 1)
  (v : Value) (ys : List Int) (hs : a.eval s = v) (hR : Row Wb v ys w)
  (n₀ : Nat) (sx : Value) (zs : List Int) (hx : a.eval x = sx) (hI : Rd n₀ w sx zs) (hbd : ys.length + zs.length ≤ 140737488355328)
  (h : ∀ v' w', Row Wb v' (ys ++ zs) w' → wpList P ops Q rest (a.put o.dst v') w') : wpList P ops Q (o :: rest) a w :=
 wpList_app w hgd s x t ho Wb.heap.size 5 i ht hi hz hsize hby v ys hs hR.1 n₀ sx zs hx hI hbd hR.2.size (fun v' w' h1 h2 => h v' w' ⟨h1, below_app hR.2 hR.1 h2 (Nat.le_refl _) hR.2.size⟩)
theorem rput16_row (sv : Value) (zs : List Int) (n : Nat) (v : Int) (hl : zs.length ≤ 140737488355328) (k1 : n + 1 < zs.length) (w : World) (hI : Rd w.heap.size w sv zs) (hv : 0 ≤ v ∧ v ≤ 65535) :
  Calls Tryz.prog 118 #[sv, .int .i64 n, .int .u16 v] w fun e w' => ∃ r, e = .returned r ∧ w'.ownsRow w.heap.size 5 1 r zs.length ((Mt.put2 zs n v).map (Value.int .u8)) ∧ Below w.heap.size w w' := by
 obtain ⟨i0, hi, hz0, hz1, hz2⟩ := info_parts info_u8
 obtain ⟨a, cap, rfl, h1, h2⟩ := hI.slice
 have t0 : (0 : Int) ≤ n := by omega
 have t1 : 2 ≤ (zs.length : Int) := by omega
 have t2 : (n : Int) ≤ (zs.length : Int) - 2 := by omega
 have i1 : (n : Int) < zs.length := by omega
 have i2 : (n : Int) + 1 < zs.length := by omega
 go_enter Tryz.func118, Tryz.ntmps118
 go_wp2_with (at_builtin; refine wpList_app _ rfl (.tmp 8) (.tmp 9) 31 rfl w.heap.size 5 i0 Tryz.underlying31 hi hz0 hz1 hz2 _ [] rfl (World.ownsRow_nil _ _ _ _) w.heap.size _ zs rfl hI (by simp; omega) (by simp) ?_; intro v2 w2 hown2 hg2; have hb2 := (Below.refl w.heap.size w).grown hg2 (by simp) (fun k e => by cases e); clear hg2; have hO2 := Ow.of_row hown2; simp only [List.nil_append] at hO2 hown2; have HW := hide hown2; clear hown2; obtain ⟨a2, cap2, rfl, hl2, hm2⟩ := hO2.slice; obtain ⟨g, rfl, _, hg, hcf, hset⟩ := hO2.at (by omega); obtain ⟨c0, f0⟩ := hcf n (by omega); obtain ⟨c1, f1⟩ := hcf (n + 1) k1; clear hcf)
 go_ret
 refine ⟨_, rfl, ?_, (hb2.setCell (p := ⟨g, n, none⟩) hg _).setCell (p := ⟨g, n + 1, none⟩) hg _⟩
 have := ((HW.out.stored n (.int .u8 (v / 256))).1.stored (n + 1) (.int .u8 (v % 256))).1
 simpa [Mt.put2, List.map_set] using this
theorem rheader_any (tos id ttl proto src dst : Int) (keep : Bool) (so : Value) (zo : List Int) (ad : Option Addr) (ld cd : Nat) (all : Int) (w : World) (hO : Mt.By zo) (hI : Rd w.heap.size w so zo)
  (hlo : zo.length ≤ 40) (hlm : zo.length % 4 = 0) (hall : 0 ≤ all ∧ all ≤ 65535) (ht : 0 ≤ tos ∧ tos ≤ 255) (hid : 0 ≤ id ∧ id ≤ 65535) (htt : 0 ≤ ttl ∧ ttl ≤ 255) (hpr : 0 ≤ proto ∧ proto ≤ 255) (hsr : 0 ≤ src ∧ src ≤ 4294967295) (hds : 0 ≤ dst ∧ dst ≤ 4294967295) :
  Calls Tryz.prog 119 #[.agg #[.int .u8 tos, .int .u16 id, .bool keep, .int .u8 ttl, .int .u8 proto, .int .u32 src, .int .u32 dst, so, .slice ad ld cd], .int .i64 all] w fun e w' => ∃ v, e = .returned v ∧ w'.ownsRow w.heap.size 5 1 v (hdr tos id keep ttl proto src dst zo all).length ((hdr tos id keep ttl proto src dst zo all).map (Value.int .u8)) ∧ Below w.heap.size w w' := by
 obtain ⟨i0, hi, hz0, hz1, hz2⟩ := info_parts info_u8
 obtain ⟨ao, co, rfl, hl1, hm1⟩ := hI.slice
 have hwr : IntKind.u16.wrap all = all := by simp [IntKind.wrap, IntKind.bits, IntKind.signed]; omega
 have hw0 : IntKind.u8.wrap (69 + (zo.length : Int) / 4) = 69 + (zo.length : Int) / 4 := by simp [IntKind.wrap, IntKind.bits, IntKind.signed]; omega
 have hwr : IntKind.u16.wrap all = all := by simp [IntKind.wrap, IntKind.bits, IntKind.signed]; omega
 have hw0 : IntKind.u8.wrap (69 + (zo.length : Int) / 4) = 69 + (zo.length : Int) / 4 := by simp [IntKind.wrap, IntKind.bits, IntKind.signed]; omega
 have hwr : IntKind.u16.wrap all = all := by simp [IntKind.wrap, IntKind.bits, IntKind.signed]; omega
 have hw0 : IntKind.u8.wrap (69 + (zo.length : Int) / 4) = 69 + (zo.length : Int) / 4 := by simp [IntKind.wrap, IntKind.bits, IntKind.signed]; omega
 have hwr : IntKind.u16.wrap all = all := by simp [IntKind.wrap, IntKind.bits, IntKind.signed]; omega
 have hw0 : IntKind.u8.wrap (69 + (zo.length : Int) / 4) = 69 + (zo.length : Int) / 4 := by simp [IntKind.wrap, IntKind.bits, IntKind.signed]; omega
 have hwr : IntKind.u16.wrap all = all := by simp [IntKind.wrap, IntKind.bits, IntKind.signed]; omega
 have hw0 : IntKind.u8.wrap (69 + (zo.length : Int) / 4) = 69 + (zo.length : Int) / 4 := by simp [IntKind.wrap, IntKind.bits, IntKind.signed]; omega
 have hwr : IntKind.u16.wrap all = all := by simp [IntKind.wrap, IntKind.bits, IntKind.signed]; omega
 have hw0 : IntKind.u8.wrap (69 + (zo.length : Int) / 4) = 69 + (zo.length : Int) / 4 := by simp [IntKind.wrap, IntKind.bits, IntKind.signed]; omega
 have hbox : Below w.heap.size w (w.alloc (.cells #[.int .u8 tos, .int .u16 id, .bool keep, .int .u8 ttl, .int .u8 proto, .int .u32 src, .int .u32 dst, .slice ao zo.length co, .slice ad ld cd] 56)) := (Below.refl _ _).alloc (Nat.le_refl _) _
 have hblk := heap_alloc_new w (.cells #[.int .u8 tos, .int .u16 id, .bool keep, .int .u8 ttl, .int .u8 proto, .int .u32 src, .int .u32 dst, .slice ao zo.length co, .slice ad ld cd] 56)
 cases keep
 ·have hsb : (w.alloc (.cells #[.int .u8 tos, .int .u16 id, .bool false, .int .u8 ttl, .int .u8 proto, .int .u32 src, .int .u32 dst, .slice ao zo.length co, .slice ad ld cd] 56)).heap.size = w.heap.size + 1 := by simp
  go_enter Tryz.func119, Tryz.ntmps119
  go_wp2_with fail
  generalize (w.alloc (.cells #[.int .u8 tos, .int .u16 id, .bool false, .int .u8 ttl, .int .u8 proto, .int .u32 src, .int .u32 dst, .slice ao zo.length co, .slice ad ld cd] 56)) = Wb at *
  have C0 : Wb.cell? ⟨w.heap.size, 0, none⟩ = some (.int .u8 tos) := block_cell hblk 0
  have C1 : Wb.cell? ⟨w.heap.size, 1, none⟩ = some (.int .u16 id) := block_cell hblk 1
  have C2 : Wb.cell? ⟨w.heap.size, 2, none⟩ = some (.bool false) := block_cell hblk 2
  have C3 : Wb.cell? ⟨w.heap.size, 3, none⟩ = some (.int .u8 ttl) := block_cell hblk 3
  have C4 : Wb.cell? ⟨w.heap.size, 4, none⟩ = some (.int .u8 proto) := block_cell hblk 4
  have C5 : Wb.cell? ⟨w.heap.size, 5, none⟩ = some (.int .u32 src) := block_cell hblk 5
  have C6 : Wb.cell? ⟨w.heap.size, 6, none⟩ = some (.int .u32 dst) := block_cell hblk 6
  have C7 : Wb.cell? ⟨w.heap.size, 7, none⟩ = some (.slice ao zo.length co) := block_cell hblk 7
  have hR1 := Row.two Wb (69 + (zo.length : Int) / 4) tos
  rw [hsb] at hR1
  generalize Wb.alloc (.cells #[.int .u8 (69 + (zo.length : Int) / 4), .int .u8 tos] 5) = w1 at *
  refine (two_any all hall _).mono ?_
  rintro e w2 ⟨rfl, rfl⟩
  go_wp2_with (at_builtin; refine wpList_row _ rfl (.tmp 15) (.tmp 18) 31 rfl Wb i0 Tryz.underlying31 hi hz0 hz1 hz2 _ [69 + (zo.length : Int) / 4, tos] rfl (hR1.alloc _) _ _ [all / 256, all % 256] rfl (Rd.new2 (all / 256) (all % 256) 5 w1) (by simp <;> omega) ?_; intro v3 w3 hR3; have d3x1 := hR3.cell C1)
  generalize hl3 : [69 + (zo.length : Int) / 4, tos] ++ [all / 256, all % 256] = l3 at *
  have n3 : l3.length = 4 := by rw [← hl3]; rfl
  have HL3 := hide hl3
  clear hl3 hR1
  refine (two_any id hid _).mono ?_
  rintro e w4 ⟨rfl, rfl⟩
  go_wp2_with (first
   | (at_builtin; refine wpList_row _ rfl (.tmp 20) (.tmp 23) 31 rfl Wb i0 Tryz.underlying31 hi hz0 hz1 hz2 _ l3 rfl (hR3.alloc _) _ _ [id / 256, id % 256] rfl (Rd.new2 (id / 256) (id % 256) 5 w3) (by simp <;> omega) ?_; intro v5 w5 hR5; have d5x2 := hR5.cell C2)
   | (at_builtin; refine wpList_row _ rfl (.tmp 30) (.tmp 31) 31 rfl Wb i0 Tryz.underlying31 hi hz0 hz1 hz2 _ (l3 ++ [id / 256, id % 256]) rfl (hR5.alloc _) _ _ [0, 0] rfl (Rd.new2 0 0 5 w5) (by simp <;> omega) ?_; intro v7 w7 hR7; have d7x3 := hR7.cell C3; have d7x4 := hR7.cell C4)
   | (at_builtin; refine wpList_row _ rfl (.tmp 33) (.tmp 38) 31 rfl Wb i0 Tryz.underlying31 hi hz0 hz1 hz2 _ (l3 ++ [id / 256, id % 256] ++ [0, 0]) rfl (hR7.alloc _) _ _ [ttl, proto, 0, 0] rfl (Rd.new4 ttl proto 0 0 5 w7) (by simp <;> omega) ?_; intro v9 w9 hR9; have d9x5 := hR9.cell C5))
  generalize hl9 : l3 ++ [id / 256, id % 256] ++ [0, 0] ++ [ttl, proto, 0, 0] = l9 at *
  have n9 : l9.length = 12 := by rw [← hl9]; simp [n3]
  have HL9 := hide hl9
  clear hl9 hR3 hR5 hR7
  refine (four_any src hsr _).mono ?_
  rintro e w10 ⟨rfl, rfl⟩
  go_wp2_with (at_builtin; refine wpList_row _ rfl (.tmp 40) (.tmp 43) 31 rfl Wb i0 Tryz.underlying31 hi hz0 hz1 hz2 _ l9 rfl (hR9.alloc _) _ _ [src / 16777216, src / 65536 % 256, src / 256 % 256, src % 256] rfl (Rd.new4 (src / 16777216) (src / 65536 % 256) (src / 256 % 256) (src % 256) 5 w9) (by simp <;> omega) ?_; intro v11 w11 hR11; have d11x6 := hR11.cell C6)
  generalize hl11 : l9 ++ [src / 16777216, src / 65536 % 256, src / 256 % 256, src % 256] = l11 at *
  have n11 : l11.length = 16 := by rw [← hl11]; simp [n9]
  have HL11 := hide hl11
  clear hl11 hR9
  refine (four_any dst hds _).mono ?_
  rintro e w12 ⟨rfl, rfl⟩
  go_wp2_with (first
   | (at_builtin; refine wpList_row _ rfl (.tmp 45) (.tmp 48) 31 rfl Wb i0 Tryz.underlying31 hi hz0 hz1 hz2 _ l11 rfl (hR11.alloc _) _ _ [dst / 16777216, dst / 65536 % 256, dst / 256 % 256, dst % 256] rfl (Rd.new4 (dst / 16777216) (dst / 65536 % 256) (dst / 256 % 256) (dst % 256) 5 w11) (by simp <;> omega) ?_; intro v13 w13 hR13; have d13x7 := hR13.cell C7)
   | (at_builtin; refine wpList_row _ rfl (.tmp 50) (.tmp 52) 31 rfl Wb i0 Tryz.underlying31 hi hz0 hz1 hz2 _ (l11 ++ [dst / 16777216, dst / 65536 % 256, dst / 256 % 256, dst % 256]) rfl (hR13) _ _ zo rfl (hI.below (hbox.trans (hR13.2.mono (by omega)))) (by simp <;> omega) ?_; intro v14 w14 hR14))
  have hO14 := Ow.of_row hR14.1
  have hll : l11 ++ [dst / 16777216, dst / 65536 % 256, dst / 256 % 256, dst % 256] ++ zo = hd0 tos id false ttl proto src dst zo all := by
   rw [hd0_eq, ← HL11.out, ← HL9.out, ← HL3.out]
   simp [h20]
   omega
  rw [hll] at hO14
  have hBd := By_hd0 tos id false ttl proto src dst zo all hO hlo ht hid htt hpr hsr hds hall
  have hlen := hd0_length tos id false ttl proto src dst zo all
  have HR : Hid (hdr tos id false ttl proto src dst zo all = putAt2 (hd0 tos id false ttl proto src dst zo all) 10 (Mt.cks (hd0 tos id false ttl proto src dst zo all))) := rfl
  have hw14 : Below w.heap.size w w14 := hbox.trans (hR14.2.mono (by omega))
  clear hll hR14 hR13 hR11 HL3 HL9 HL11
  generalize hd0 tos id false ttl proto src dst zo all = dd at *
  have hcb := Mt.cks_bd dd
  refine (rsum_any v14 dd hBd (by omega) w14 hO14.rd).mono ?_
  rintro e w15 ⟨rfl, hb15⟩
  obtain ⟨a14, cap14, rfl, hq14, hm14⟩ := hO14.slice
  have hO15 := hO14.below hb15 (Nat.le_refl _)
  have HLn := hide hlen
  clear hlen
  go_wp2_with fail
  refine (rput16_row _ dd 10 (Mt.cks dd) (by have := HLn.out; omega) (by have := HLn.out; omega) w15 hO15.rd hcb).mono ?_
  rintro e w16 ⟨r16, rfl, hO16, hb16⟩
  go_wp2
  go_ret
  have hw15 := hw14.trans (hb15.mono hw14.size)
  refine ⟨_, rfl, ?_, hw15.trans (hb16.mono hw15.size)⟩
  have hln := HLn.out
  rw [HR.out, putAt2_lit _ 10 10 _ rfl (by omega), Mt.put2_length]
  exact row_mono hO16 hw15.size
 ·have hsb : (w.alloc (.cells #[.int .u8 tos, .int .u16 id, .bool true, .int .u8 ttl, .int .u8 proto, .int .u32 src, .int .u32 dst, .slice ao zo.length co, .slice ad ld cd] 56)).heap.size = w.heap.size + 1 := by simp
  go_enter Tryz.func119, Tryz.ntmps119
  go_wp2_with fail
  generalize (w.alloc (.cells #[.int .u8 tos, .int .u16 id, .bool true, .int .u8 ttl, .int .u8 proto, .int .u32 src, .int .u32 dst, .slice ao zo.length co, .slice ad ld cd] 56)) = Wb at *
  have C0 : Wb.cell? ⟨w.heap.size, 0, none⟩ = some (.int .u8 tos) := block_cell hblk 0
  have C1 : Wb.cell? ⟨w.heap.size, 1, none⟩ = some (.int .u16 id) := block_cell hblk 1
  have C2 : Wb.cell? ⟨w.heap.size, 2, none⟩ = some (.bool true) := block_cell hblk 2
  have C3 : Wb.cell? ⟨w.heap.size, 3, none⟩ = some (.int .u8 ttl) := block_cell hblk 3
  have C4 : Wb.cell? ⟨w.heap.size, 4, none⟩ = some (.int .u8 proto) := block_cell hblk 4
  have C5 : Wb.cell? ⟨w.heap.size, 5, none⟩ = some (.int .u32 src) := block_cell hblk 5
  have C6 : Wb.cell? ⟨w.heap.size, 6, none⟩ = some (.int .u32 dst) := block_cell hblk 6
  have C7 : Wb.cell? ⟨w.heap.size, 7, none⟩ = some (.slice ao zo.length co) := block_cell hblk 7
  have hR1 := Row.two Wb (69 + (zo.length : Int) / 4) tos
  rw [hsb] at hR1
  generalize Wb.alloc (.cells #[.int .u8 (69 + (zo.length : Int) / 4), .int .u8 tos] 5) = w1 at *
  refine (two_any all hall _).mono ?_
  rintro e w2 ⟨rfl, rfl⟩
  go_wp2_with (at_builtin; refine wpList_row _ rfl (.tmp 15) (.tmp 18) 31 rfl Wb i0 Tryz.underlying31 hi hz0 hz1 hz2 _ [69 + (zo.length : Int) / 4, tos] rfl (hR1.alloc _) _ _ [all / 256, all % 256] rfl (Rd.new2 (all / 256) (all % 256) 5 w1) (by simp <;> omega) ?_; intro v3 w3 hR3; have d3x1 := hR3.cell C1)
  generalize hl3 : [69 + (zo.length : Int) / 4, tos] ++ [all / 256, all % 256] = l3 at *
  have n3 : l3.length = 4 := by rw [← hl3]; rfl
  have HL3 := hide hl3
  clear hl3 hR1
  refine (two_any id hid _).mono ?_
  rintro e w4 ⟨rfl, rfl⟩
  go_wp2_with (first
   | (at_builtin; refine wpList_row _ rfl (.tmp 20) (.tmp 23) 31 rfl Wb i0 Tryz.underlying31 hi hz0 hz1 hz2 _ l3 rfl (hR3.alloc _) _ _ [id / 256, id % 256] rfl (Rd.new2 (id / 256) (id % 256) 5 w3) (by simp <;> omega) ?_; intro v5 w5 hR5; have d5x2 := hR5.cell C2)
   | (at_builtin; refine wpList_row _ rfl (.tmp 27) (.tmp 28) 31 rfl Wb i0 Tryz.underlying31 hi hz0 hz1 hz2 _ (l3 ++ [id / 256, id % 256]) rfl (hR5.alloc _) _ _ [64, 0] rfl (Rd.new2 64 0 5 w5) (by simp <;> omega) ?_; intro v7 w7 hR7; have d7x3 := hR7.cell C3; have d7x4 := hR7.cell C4)
   | (at_builtin; refine wpList_row _ rfl (.tmp 33) (.tmp 38) 31 rfl Wb i0 Tryz.underlying31 hi hz0 hz1 hz2 _ (l3 ++ [id / 256, id % 256] ++ [64, 0]) rfl (hR7.alloc _) _ _ [ttl, proto, 0, 0] rfl (Rd.new4 ttl proto 0 0 5 w7) (by simp <;> omega) ?_; intro v9 w9 hR9; have d9x5 := hR9.cell C5))
  generalize hl9 : l3 ++ [id / 256, id % 256] ++ [64, 0] ++ [ttl, proto, 0, 0] = l9 at *
  have n9 : l9.length = 12 := by rw [← hl9]; simp [n3]
  have HL9 := hide hl9
  clear hl9 hR3 hR5 hR7
  refine (four_any src hsr _).mono ?_
  rintro e w10 ⟨rfl, rfl⟩
  go_wp2_with (at_builtin; refine wpList_row _ rfl (.tmp 40) (.tmp 43) 31 rfl Wb i0 Tryz.underlying31 hi hz0 hz1 hz2 _ l9 rfl (hR9.alloc _) _ _ [src / 16777216, src / 65536 % 256, src / 256 % 256, src % 256] rfl (Rd.new4 (src / 16777216) (src / 65536 % 256) (src / 256 % 256) (src % 256) 5 w9) (by simp <;> omega) ?_; intro v11 w11 hR11; have d11x6 := hR11.cell C6)
  generalize hl11 : l9 ++ [src / 16777216, src / 65536 % 256, src / 256 % 256, src % 256] = l11 at *
  have n11 : l11.length = 16 := by rw [← hl11]; simp [n9]
  have HL11 := hide hl11
  clear hl11 hR9
  refine (four_any dst hds _).mono ?_
  rintro e w12 ⟨rfl, rfl⟩
  go_wp2_with (first
   | (at_builtin; refine wpList_row _ rfl (.tmp 45) (.tmp 48) 31 rfl Wb i0 Tryz.underlying31 hi hz0 hz1 hz2 _ l11 rfl (hR11.alloc _) _ _ [dst / 16777216, dst / 65536 % 256, dst / 256 % 256, dst % 256] rfl (Rd.new4 (dst / 16777216) (dst / 65536 % 256) (dst / 256 % 256) (dst % 256) 5 w11) (by simp <;> omega) ?_; intro v13 w13 hR13; have d13x7 := hR13.cell C7)
   | (at_builtin; refine wpList_row _ rfl (.tmp 50) (.tmp 52) 31 rfl Wb i0 Tryz.underlying31 hi hz0 hz1 hz2 _ (l11 ++ [dst / 16777216, dst / 65536 % 256, dst / 256 % 256, dst % 256]) rfl (hR13) _ _ zo rfl (hI.below (hbox.trans (hR13.2.mono (by omega)))) (by simp <;> omega) ?_; intro v14 w14 hR14))
  have hO14 := Ow.of_row hR14.1
  have hll : l11 ++ [dst / 16777216, dst / 65536 % 256, dst / 256 % 256, dst % 256] ++ zo = hd0 tos id true ttl proto src dst zo all := by
   rw [hd0_eq, ← HL11.out, ← HL9.out, ← HL3.out]
   simp [h20]
   omega
  rw [hll] at hO14
  have hBd := By_hd0 tos id true ttl proto src dst zo all hO hlo ht hid htt hpr hsr hds hall
  have hlen := hd0_length tos id true ttl proto src dst zo all
  have HR : Hid (hdr tos id true ttl proto src dst zo all = putAt2 (hd0 tos id true ttl proto src dst zo all) 10 (Mt.cks (hd0 tos id true ttl proto src dst zo all))) := rfl
  have hw14 : Below w.heap.size w w14 := hbox.trans (hR14.2.mono (by omega))
  clear hll hR14 hR13 hR11 HL3 HL9 HL11
  generalize hd0 tos id true ttl proto src dst zo all = dd at *
  have hcb := Mt.cks_bd dd
  refine (rsum_any v14 dd hBd (by omega) w14 hO14.rd).mono ?_
  rintro e w15 ⟨rfl, hb15⟩
  obtain ⟨a14, cap14, rfl, hq14, hm14⟩ := hO14.slice
  have hO15 := hO14.below hb15 (Nat.le_refl _)
  have HLn := hide hlen
  clear hlen
  go_wp2_with fail
  refine (rput16_row _ dd 10 (Mt.cks dd) (by have := HLn.out; omega) (by have := HLn.out; omega) w15 hO15.rd hcb).mono ?_
  rintro e w16 ⟨r16, rfl, hO16, hb16⟩
  go_wp2
  go_ret
  have hw15 := hw14.trans (hb15.mono hw14.size)
  refine ⟨_, rfl, ?_, hw15.trans (hb16.mono hw15.size)⟩
  have hln := HLn.out
  rw [HR.out, putAt2_lit _ 10 10 _ rfl (by omega), Mt.put2_length]
  exact row_mono hO16 hw15.size
theorem rbuild_yes (tos id ttl proto src dst : Int) (keep : Bool) (so sd : Value) (zo zd : List Int) (w : World) (hBo : Mt.By zo) (hIo : Rd w.heap.size w so zo) (hId : Rd w.heap.size w sd zd)
  (hlo : zo.length ≤ 40) (hlm : zo.length % 4 = 0) (hall : 20 + zo.length + zd.length ≤ 65535) (ht : 0 ≤ tos ∧ tos ≤ 255) (hid : 0 ≤ id ∧ id ≤ 65535) (htt : 0 ≤ ttl ∧ ttl ≤ 255) (hpr : 0 ≤ proto ∧ proto ≤ 255) (hsr : 0 ≤ src ∧ src ≤ 4294967295) (hds : 0 ≤ dst ∧ dst ≤ 4294967295) :
  Calls Tryz.prog 63 #[.agg #[.int .u8 tos, .int .u16 id, .bool keep, .int .u8 ttl, .int .u8 proto, .int .u32 src, .int .u32 dst, so, sd]] w fun e w' => ∃ v, e = .returned (.tuple #[v, .int .i64 0]) ∧ Ow w.heap.size w' v (hdr tos id keep ttl proto src dst zo (20 + zo.length + zd.length) ++ zd) ∧ Below w.heap.size w w' := by
 obtain ⟨i0, hi, hz0, hz1, hz2⟩ := info_parts info_u8
 obtain ⟨ao, co, rfl, hl1, hm1⟩ := hIo.slice
 obtain ⟨ad, cd, rfl, hl2, hm2⟩ := hId.slice
 have hbox : Below w.heap.size w (w.alloc (.cells #[.int .u8 tos, .int .u16 id, .bool keep, .int .u8 ttl, .int .u8 proto, .int .u32 src, .int .u32 dst, .slice ao zo.length co, .slice ad zd.length cd] 56)) := (Below.refl _ _).alloc (Nat.le_refl _) _
 have hblk := heap_alloc_new w (.cells #[.int .u8 tos, .int .u16 id, .bool keep, .int .u8 ttl, .int .u8 proto, .int .u32 src, .int .u32 dst, .slice ao zo.length co, .slice ad zd.length cd] 56)
 have hsz : (w.alloc (.cells #[.int .u8 tos, .int .u16 id, .bool keep, .int .u8 ttl, .int .u8 proto, .int .u32 src, .int .u32 dst, .slice ao zo.length co, .slice ad zd.length cd] 56)).heap.size = w.heap.size + 1 := by simp
 have t1 : ¬ (40 : Int) < zo.length := by omega
 have t2 : ((zo.length : Int) % 4 != 0) = false := by simp; omega
 have t3 : ¬ (65535 : Int) < 20 + zo.length + zd.length := by omega
 have hlh : (hdr tos id keep ttl proto src dst zo (20 + zo.length + zd.length)).length = 20 + zo.length := hdr_len _ _ _ _ _ _ _ _ _
 go_enter Tryz.func63, Tryz.ntmps63
 go_wp2_with fail
 generalize w.alloc (.cells #[.int .u8 tos, .int .u16 id, .bool keep, .int .u8 ttl, .int .u8 proto, .int .u32 src, .int .u32 dst, .slice ao zo.length co, .slice ad zd.length cd] 56) = w1 at *
 have hIo1 := (hIo.below hbox).mono hbox.size
 have hId1 := (hId.below hbox).mono hbox.size
 have C1 := block_cell hblk
 have b8 : w1.cell? ⟨w.heap.size, 8, none⟩ = some (.slice ad zd.length cd) := C1 8
 have hs1 : w.heap.size < w1.heap.size := by omega
 have HL := hide hlh
 clear hlh
 go_region_law (first
  | (refine step_run rfl (.tmp 28) (.tmp 30) 31 rfl _ _ rfl rfl v5 w5 hrun ?_)
  | (go_simp; go_at_call 119; refine (rheader_any tos id ttl proto src dst keep _ zo ad zd.length cd (20 + zo.length + zd.length) w1.drew hBo (hIo1.drew 1) hlo hlm (by omega) ht hid htt hpr hsr hds).mono ?_; rintro e w4 ⟨v4, rfl, hO4, hb4⟩; have c8 : w4.cell? ⟨w.heap.size, 8, none⟩ = some (.slice ad zd.length cd) := (hb4.cell (p := ⟨w.heap.size, 8, none⟩) hs1).trans b8; obtain ⟨v5, w5, hrun, hO5, hg5⟩ := run_app (P := Tryz.prog) w4 31 31 5 w1.heap.size i0 Tryz.underlying31 hi hz0 hz1 hz2 v4 _ hO4 w1.heap.size _ zd ((hId1.drew 1).below hb4) (by have := HL.out; omega) hb4.size; have hb5 := below_app hb4 hO4 hg5 (Nat.le_refl _) hb4.size; dsimp only))
 all_goals go_wp2
 all_goals go_ret2
 all_goals
  have hbW := (below_draw hbox 1).trans (hb5.mono hbox.size)
  exact ⟨_, rfl, (Ow.of_row hO5).mono hbox.size, hbW⟩
theorem rget16_rd {n₀ : Nat} (sv : Value) (zs : List Int) (hB : Mt.By zs) (p : Nat) (h : p + 1 < zs.length) (hl : zs.length ≤ 140737488355328) (w : World) (hI : Rd n₀ w sv zs) :
  Calls Tryz.prog 120 #[sv, .int .i64 p] w fun e w' => e = .returned (.int .u16 (wat zs p)) ∧ Later w w' := by
 refine (rget16_at sv zs hB p (by omega) hl w hI).mono ?_
 rintro e w' ⟨rfl, q, rfl⟩
 refine ⟨?_, below_draw (Later.refl w) q⟩
 unfold getAt2
 rw [if_pos (by omega), Int.toNat_natCast]
theorem rget32_rd {n₀ : Nat} (sv : Value) (zs : List Int) (hB : Mt.By zs) (p : Nat) (h : p + 3 < zs.length) (hl : zs.length ≤ 140737488355328) (w : World) (hI : Rd n₀ w sv zs) :
  Calls Tryz.prog 122 #[sv, .int .i64 p] w fun e w' => e = .returned (.int .u32 (wat4 zs p)) ∧ Later w w' := by
 refine (rget32_at sv zs hB p (by omega) hl w hI).mono ?_
 rintro e w' ⟨rfl, q, rfl⟩
 refine ⟨?_, below_draw (Later.refl w) q⟩
 unfold getAt4
 rw [if_pos (by omega), Int.toNat_natCast]
theorem res_rread (tm : Array Value) (pb : Nat) (c : Int) (v0 v1 v2 v3 v4 v5 v6 v7 v8 : Value) (w : World) (h4 : tm[4]? = some (.pointer (some ⟨pb, 0, none⟩))) (h5 : tm[5]? = some (.int .i64 c))
  (hp : w.heap[pb]? = some (.cells #[v0, v1, v2, v3, v4, v5, v6, v7, v8] 56 (0, 0))) :
  (results Tryz.f64 tm).run Tryz.prog w = .ok (.tuple #[.agg #[v0, v1, v2, v3, v4, v5, v6, v7, v8], .int .i64 c]) w := by
 have kP := block_cell hp
 simp [results, Tryz.results64, go_sem, h4, h5, kP]
theorem rexit {R : Ending → World → Prop} (tm : Array Value) (pb : Nat) (c : Int) (V : World) (h4 : tm[4]? = some (.pointer (some ⟨pb, 0, none⟩))) (h5 : tm[5]? = some (.int .i64 c)) (hV : V.heap[pb]? = some (.cells zc.toArray 56 (0, 0)))
  (hR : R (.returned (.tuple #[.agg zc.toArray, .int .i64 c])) V) : bodyPost Tryz.prog Tryz.f64 R .ret { tmps := tm, defers := [] } V :=
 bodyPost_ret (res_rread tm pb c _ _ _ _ _ _ _ _ _ V h4 h5 hV) rfl hR
theorem rread_any (q : Bool) (sv : Value) (zs : List Int) (w : World) (hB : Mt.By zs) (hl : zs.length ≤ 140737488355328) (hI : Rd w.heap.size w sv zs) :
  Calls Tryz.prog 64 #[sv, .bool q] w fun e w' => Below w.heap.size w w' ∧
   ((rde q zs ≠ 0 ∧ e = .returned (.tuple #[.agg zc.toArray, .int .i64 (rde q zs)])) ∨
    (rde q zs = 0 ∧ ∃ so sd, e = .returned (.tuple #[pkt zs so sd, .int .i64 0]) ∧ Ow w.heap.size w' so ((zs.take (hl4 zs).toNat).drop 20) ∧ Ow w.heap.size w' sd ((zs.take (ral q zs).toNat).drop (hl4 zs).toNat))) := by
 obtain ⟨i0, hi, hz0, hz1, hz2⟩ := info_parts info_u8
 obtain ⟨a, cap, rfl, hl1, hm1⟩ := hI.slice
 have hb1 : Below w.heap.size w (w.alloc (.cells zc.toArray 56)) := (Below.refl _ _).alloc (Nat.le_refl _) _
 have p1 := heap_alloc_new w (.cells zc.toArray 56)
 have s1 : (w.alloc (.cells zc.toArray 56)).heap.size = w.heap.size + 1 := by simp
 have HM : Hid (rde q zs = if msr zs ≠ 0 then msr zs else if (zs.length : Int) < ral q zs then 3 else if chk zs ≠ 0 then chk zs else if q = true ∧ ral q zs - hl4 zs < 8 then 3 else 0) := rfl
 go_enter Tryz.func64, Tryz.ntmps64
 by_cases h1 : zs.length < 20
 ·have t1 : (zs.length : Int) < 20 := by omega
  have HR : Hid (rde q zs = 3) := by show _ = _; unfold rde; rw [show msr zs = 3 from by unfold msr; rw [if_pos h1]]; rfl
  have P2 := block_cell p1
  have F2 := block_frozen p1
  go_wp2_with fail
  exact rexit _ w.heap.size 3 _ rfl rfl p1 ⟨hb1, .inl (by rw [HR.out]; exact ⟨by omega, rfl⟩)⟩
 have t1 : ¬ (zs.length : Int) < 20 := by omega
 obtain ⟨b, off, cap', e', _, _, hb, hc⟩ := hI.cells (by omega)
 cases e'
 have d0 : (w.alloc (.cells zc.toArray 56)).cell? ⟨b, off, none⟩ = some (.int .u8 (zs[0]?.getD 0)) := (hb1.cell (p := ⟨b, off, none⟩) hb).trans (by have := hc 0 (by omega); rwa [Nat.add_zero] at this)
 have b0 := hB.at 0
 have hlz : (0 : Int) < zs.length := by omega
 by_cases h2 : zs[0]?.getD 0 / 16 ≠ 4
 ·have t2 : (zs[0]?.getD 0 / 16 != 4) = true := by simpa using h2
  have HR : Hid (rde q zs = 6) := by show _ = _; unfold rde; rw [show msr zs = 6 from by unfold msr; rw [if_neg h1, if_pos h2]]; rfl
  have P2 := block_cell p1
  have F2 := block_frozen p1
  go_wp2_with fail
  exact rexit _ w.heap.size 6 _ rfl rfl p1 ⟨hb1, .inl (by rw [HR.out]; exact ⟨by omega, rfl⟩)⟩
 have t2 : (zs[0]?.getD 0 / 16 != 4) = false := by simpa using h2
 have HH : hl4 zs = zs[0]?.getD 0 % 16 * 4 := rfl
 have hh := hl4_bd hB
 by_cases h3 : hl4 zs < 20
 ·have t3 : zs[0]?.getD 0 % 16 * 4 < 20 := by rw [← HH]; exact h3
  have HR : Hid (rde q zs = 4) := by show _ = _; unfold rde; rw [show msr zs = 4 from by unfold msr; rw [if_neg h1, if_neg h2, if_pos h3]]; rfl
  have P2 := block_cell p1
  have F2 := block_frozen p1
  go_wp2_with fail
  exact rexit _ w.heap.size 4 _ rfl rfl p1 ⟨hb1, .inl (by rw [HR.out]; exact ⟨by omega, rfl⟩)⟩
 have t3 : ¬ zs[0]?.getD 0 % 16 * 4 < 20 := by rw [← HH]; exact h3
 by_cases h4 : (zs.length : Int) < hl4 zs
 ·have t4 : (zs.length : Int) < zs[0]?.getD 0 % 16 * 4 := by rw [← HH]; exact h4
  have HR : Hid (rde q zs = 3) := by show _ = _; unfold rde; rw [show msr zs = 3 from by unfold msr; rw [if_neg h1, if_neg h2, if_neg h3, if_pos h4]]; rfl
  have P2 := block_cell p1
  have F2 := block_frozen p1
  go_wp2_with fail
  exact rexit _ w.heap.size 3 _ rfl rfl p1 ⟨hb1, .inl (by rw [HR.out]; exact ⟨by omega, rfl⟩)⟩
 have t4 : ¬ (zs.length : Int) < zs[0]?.getD 0 % 16 * 4 := by rw [← HH]; exact h4
 go_wp2_with fail
 clear d0
 refine (rget16_rd _ zs hB 2 (by omega) hl _ ((hI.below hb1).mono (Nat.le_succ _))).mono ?_
 rintro e w2 ⟨rfl, hl2⟩
 obtain ⟨k, hk⟩ := Int.eq_ofNat_of_zero_le (show 0 ≤ zs[0]?.getD 0 % 16 * 4 by omega)
 have HK : Hid (hl4 zs = (k : Int)) := by show _ = _; rw [HH]; exact hk
 rw [hk] at t3 t4 ⊢
 have hkl : 20 ≤ k ∧ k ≤ zs.length := by omega
 have hkc : k ≤ cap := by omega
 have hn2 := wat_bd hB 2
 have z2 := hl2.size
 have HM2 : ∀ x, msr zs = x → Hid (msr zs = x) := fun _ h => h
 by_cases h5 : wat zs 2 < hl4 zs
 ·have t5 : wat zs 2 < (k : Int) := by omega
  have HR : Hid (rde q zs = 4) := by show _ = _; unfold rde; rw [show msr zs = 4 from by unfold msr; rw [if_neg h1, if_neg h2, if_neg (by omega), if_neg (by omega), if_pos h5]]; rfl
  have pk := ((hl2).block w.heap.size (by omega)).trans p1
  have Pk := block_cell pk
  have Fk := block_frozen pk
  go_wp2_with fail
  clear Pk Fk
  generalize hV : World.setCell _ ⟨w.heap.size, 8, none⟩ _ = V
  have hV9 : V = putRow w2 w.heap.size 0 zc := hV.symm
  have hb8 : But (fun b => b = w.heap.size) w2 V := by rw [hV9]; exact putRow_but (E := fun b => b = w.heap.size) (n := w.heap.size) rfl _ _ _ _ (But.refl _ _)
  have p8 := putRow_all zc pk rfl
  rw [← hV9] at p8
  exact rexit _ w.heap.size 4 _ rfl rfl p8 ⟨(hb1.trans ((hl2).mono (by omega))).trans (hb8.below (Nat.le_trans (by omega) (hl2).size) (fun j h e => by omega)), .inl (by rw [HR.out]; exact ⟨by omega, rfl⟩)⟩
 have t5 : ¬ wat zs 2 < (k : Int) := by omega
 have hm0 : Hid (msr zs = 0) := by show _ = _; unfold msr; rw [if_neg h1, if_neg h2, if_neg (by omega), if_neg (by omega), if_neg (by omega)]
 cases q
 ·by_cases h6 : (zs.length : Int) < wat zs 2
  ·have HR : Hid (rde false zs = 3) := by show _ = _; unfold rde; rw [hm0.out, if_neg (by simp), if_pos (by simpa [ral] using h6)]
   have pk := ((hl2).block w.heap.size (by omega)).trans p1
   have Pk := block_cell pk
   have Fk := block_frozen pk
   go_wp2_with fail
   clear Pk Fk
   generalize hV : World.setCell _ ⟨w.heap.size, 8, none⟩ _ = V
   have hV9 : V = putRow w2 w.heap.size 0 zc := hV.symm
   have hb8 : But (fun b => b = w.heap.size) w2 V := by rw [hV9]; exact putRow_but (E := fun b => b = w.heap.size) (n := w.heap.size) rfl _ _ _ _ (But.refl _ _)
   have p8 := putRow_all zc pk rfl
   rw [← hV9] at p8
   exact rexit _ w.heap.size 3 _ rfl rfl p8 ⟨(hb1.trans ((hl2).mono (by omega))).trans (hb8.below (Nat.le_trans (by omega) (hl2).size) (fun j h e => by omega)), .inl (by rw [HR.out]; exact ⟨by omega, rfl⟩)⟩
  go_wp2_with fail
  refine (rgood_any _ (zs.take k) (hB.take _) (by simp; omega) w2 (((hI.take k (by omega)).below (hb1.trans (hl2.mono (by omega)))).mono (by omega))).mono ?_
  rintro e w3 ⟨rfl, hl3⟩
  have hL3 : Later _ w3 := hl2.trans hl3
  have z3 := hL3.size
  cases hg : (Mt.cks (zs.take k) == 0)
  ·have hc5 : chk zs = 5 := by unfold chk; rw [HK.out, Int.toNat_natCast, if_pos (by simpa using hg)]
   have HR : Hid (rde false zs = 5) := by show _ = _; unfold rde; rw [hm0.out, if_neg (by simp), if_neg (by simp [ral]; omega), hc5]; rfl
   clear hc5
   have pk := ((hL3).block w.heap.size (by omega)).trans p1
   have Pk := block_cell pk
   have Fk := block_frozen pk
   go_wp2_with fail
   clear Pk Fk
   generalize hV : World.setCell _ ⟨w.heap.size, 8, none⟩ _ = V
   have hV9 : V = putRow w3 w.heap.size 0 zc := hV.symm
   have hb8 : But (fun b => b = w.heap.size) w3 V := by rw [hV9]; exact putRow_but (E := fun b => b = w.heap.size) (n := w.heap.size) rfl _ _ _ _ (But.refl _ _)
   have p8 := putRow_all zc pk rfl
   rw [← hV9] at p8
   exact rexit _ w.heap.size 5 _ rfl rfl p8 ⟨(hb1.trans ((hL3).mono (by omega))).trans (hb8.below (Nat.le_trans (by omega) (hL3).size) (fun j h e => by omega)), .inl (by rw [HR.out]; exact ⟨by omega, rfl⟩)⟩
  have hg0 : Mt.cks (zs.take k) = 0 := by simpa using hg
  have Hg := hide hg0
  clear hg hg0
  go_wp2_with fail
  refine (rget16_rd _ zs hB 6 (by omega) hl w3 (hI.below (hb1.trans (hL3.mono (by omega))))).mono ?_
  rintro e w4 ⟨rfl, hl4'⟩
  have hL4 : Later _ w4 := hL3.trans hl4'
  have z4 := hL4.size
  have hff := wat_bd hB 6
  by_cases h7 : wat zs 6 % 16384 ≠ 0
  ·have t7 : (wat zs 6 % 16384 != 0) = true := by simpa using h7
   have hc5 : chk zs = 7 := by unfold chk; rw [HK.out, Int.toNat_natCast, if_neg (by simp [Hg.out]), if_pos h7]
   have HR : Hid (rde false zs = 7) := by show _ = _; unfold rde; rw [hm0.out, if_neg (by simp), if_neg (by simp [ral]; omega), hc5]; rfl
   clear hc5
   have pk := ((hL4).block w.heap.size (by omega)).trans p1
   have Pk := block_cell pk
   have Fk := block_frozen pk
   go_wp2_with fail
   clear Pk Fk
   generalize hV : World.setCell _ ⟨w.heap.size, 8, none⟩ _ = V
   have hV9 : V = putRow w4 w.heap.size 0 zc := hV.symm
   have hb8 : But (fun b => b = w.heap.size) w4 V := by rw [hV9]; exact putRow_but (E := fun b => b = w.heap.size) (n := w.heap.size) rfl _ _ _ _ (But.refl _ _)
   have p8 := putRow_all zc pk rfl
   rw [← hV9] at p8
   exact rexit _ w.heap.size 7 _ rfl rfl p8 ⟨(hb1.trans ((hL4).mono (by omega))).trans (hb8.below (Nat.le_trans (by omega) (hL4).size) (fun j h e => by omega)), .inl (by rw [HR.out]; exact ⟨by omega, rfl⟩)⟩
  have t7 : (wat zs 6 % 16384 != 0) = false := by simpa using h7
  by_cases h8 : 32768 ≤ wat zs 6
  ·have hc5 : chk zs = 4 := by unfold chk; rw [HK.out, Int.toNat_natCast, if_neg (by simp [Hg.out]), if_neg h7, if_pos h8]
   have HR : Hid (rde false zs = 4) := by show _ = _; unfold rde; rw [hm0.out, if_neg (by simp), if_neg (by simp [ral]; omega), hc5]; rfl
   clear hc5
   have pk := ((hL4).block w.heap.size (by omega)).trans p1
   have Pk := block_cell pk
   have Fk := block_frozen pk
   go_wp2_with fail
   clear Pk Fk
   generalize hV : World.setCell _ ⟨w.heap.size, 8, none⟩ _ = V
   have hV9 : V = putRow w4 w.heap.size 0 zc := hV.symm
   have hb8 : But (fun b => b = w.heap.size) w4 V := by rw [hV9]; exact putRow_but (E := fun b => b = w.heap.size) (n := w.heap.size) rfl _ _ _ _ (But.refl _ _)
   have p8 := putRow_all zc pk rfl
   rw [← hV9] at p8
   exact rexit _ w.heap.size 4 _ rfl rfl p8 ⟨(hb1.trans ((hL4).mono (by omega))).trans (hb8.below (Nat.le_trans (by omega) (hL4).size) (fun j h e => by omega)), .inl (by rw [HR.out]; exact ⟨by omega, rfl⟩)⟩
  have hc0 : Hid (chk zs = 0) := by show _ = _; unfold chk; rw [HK.out, Int.toNat_natCast, if_neg (by simp [Hg.out]), if_neg h7, if_neg h8]
  have HR : Hid (rde false zs = 0) := by show _ = _; unfold rde; rw [hm0.out, if_neg (by simp), if_neg (by simp [ral]; omega), hc0.out, if_neg (by simp), if_neg (by simp)]
  go_wp2_with fail
  obtain ⟨n, hn⟩ := Int.eq_ofNat_of_zero_le (show 0 ≤ wat zs 2 by omega)
  have hkn : 20 ≤ k ∧ k ≤ n ∧ n ≤ zs.length := by omega
  have HN : Hid (ral false zs = n) := by show _ = _; simp [ral]; omega
  have Hn := hide hn
  rw [hn]
  clear hn
  have d1 := hc 1 (by omega)
  have d8 := hc 8 (by omega)
  have d9 := hc 9 (by omega)
  have hbw4 := hb1.trans (hL4.mono (by omega))
  generalize gz1 : zs[1]?.getD 0 = z1 at *
  generalize gz8 : zs[8]?.getD 0 = z8 at *
  generalize gz9 : zs[9]?.getD 0 = z9 at *
  have G1 := hide gz1
  have G8 := hide gz8
  have G9 := hide gz9
  clear gz1 gz8 gz9
  have i1 : (1 : Int) < zs.length := by omega
  have i8 : (8 : Int) < zs.length := by omega
  have i9 : (9 : Int) < zs.length := by omega
  refine anyR_begin (R := KI w4.heap.size 56 9 (List.toArray [.int .u8 z1, .int .u16 (wat zs 4), .bool (decide (16384 ≤ wat zs 6)), .int .u8 z8, .int .u8 z9, .int .u32 (wat4 zs 12), .int .u32 (wat4 zs 16), .slice none 0 0, .slice none 0 0])) (KI.pre _ _ _ _) (fun w => KI.of (Later.drew w)) 20 rfl (by kernel_rfl) (fun W5 hW5 => ?_)
  have hbel : ∀ w1, KI w4.heap.size 56 9 (List.toArray [.int .u8 z1, .int .u16 (wat zs 4), .bool (decide (16384 ≤ wat zs 6)), .int .u8 z8, .int .u8 z9, .int .u32 (wat4 zs 12), .int .u32 (wat4 zs 16), .slice none 0 0, .slice none 0 0]) W5 w1 → Below w.heap.size w w1 := fun w1 h => hbw4.trans (((hW5.trans h).1.below (Nat.le_refl _) (fun k hk e => by omega)).mono (by omega))
  have hr1 : ∀ w1, KI w4.heap.size 56 9 (List.toArray [.int .u8 z1, .int .u16 (wat zs 4), .bool (decide (16384 ≤ wat zs 6)), .int .u8 z8, .int .u8 z9, .int .u32 (wat4 zs 12), .int .u32 (wat4 zs 16), .slice none 0 0, .slice none 0 0]) W5 w1 → Rd w.heap.size w1 (.slice (some ⟨b, off, none⟩) zs.length cap) zs := fun w1 h => hI.below (hbel w1 h)
  have e1 : ∀ w1, KI w4.heap.size 56 9 (List.toArray [.int .u8 z1, .int .u16 (wat zs 4), .bool (decide (16384 ≤ wat zs 6)), .int .u8 z8, .int .u8 z9, .int .u32 (wat4 zs 12), .int .u32 (wat4 zs 16), .slice none 0 0, .slice none 0 0]) W5 w1 → w1.cell? ⟨b, off + 1, none⟩ = some (.int .u8 z1) := fun w1 h => ((hbel w1 h).cell (p := ⟨b, off + 1, none⟩) hb).trans d1
  have e8 : ∀ w1, KI w4.heap.size 56 9 (List.toArray [.int .u8 z1, .int .u16 (wat zs 4), .bool (decide (16384 ≤ wat zs 6)), .int .u8 z8, .int .u8 z9, .int .u32 (wat4 zs 12), .int .u32 (wat4 zs 16), .slice none 0 0, .slice none 0 0]) W5 w1 → w1.cell? ⟨b, off + 8, none⟩ = some (.int .u8 z8) := fun w1 h => ((hbel w1 h).cell (p := ⟨b, off + 8, none⟩) hb).trans d8
  have e9 : ∀ w1, KI w4.heap.size 56 9 (List.toArray [.int .u8 z1, .int .u16 (wat zs 4), .bool (decide (16384 ≤ wat zs 6)), .int .u8 z8, .int .u8 z9, .int .u32 (wat4 zs 12), .int .u32 (wat4 zs 16), .slice none 0 0, .slice none 0 0]) W5 w1 → w1.cell? ⟨b, off + 9, none⟩ = some (.int .u8 z9) := fun w1 h => ((hbel w1 h).cell (p := ⟨b, off + 9, none⟩) hb).trans d9
  clear d1 d8 d9
  refine rV (KI.pre _ _ _ _) 0 rfl rfl ⟨_, fun v h => by (go_simp; rfl), ?_⟩; simp only [Act.put, sA, sB, sC]
  refine rV (KI.pre _ _ _ _) 1 rfl rfl ⟨_, fun v h => by (go_simp; rfl), ?_⟩; simp only [Act.put, sA, sB, sC]
  refine rV (KI.pre _ _ _ _) 2 rfl rfl ⟨_, fun v h => by (go_simp; rfl), ?_⟩; simp only [Act.put, sA, sB, sC]
  refine rV (KI.pre _ _ _ _) 3 rfl rfl ⟨_, fun v h => by (go_simp; rfl), ?_⟩; simp only [Act.put, sA, sB, sC]
  refine anyR_take (KI.pre _ _ _ _) 4 (.int .u16 (wat zs 4)) rfl (by kernel_rfl) (by kernel_rfl) (by kernel_rfl) (fun _ _ _ h => h) rfl (fun w1 hw1 => goes_call 120 #[.slice (some ⟨b, off, none⟩) zs.length cap, .int .i64 4] (by go_simp) ?_) ?_
  ·exact (rget16_rd _ zs hB 4 (by omega) hl w1 (hr1 w1 hw1)).mono fun e w' ⟨he, hw⟩ => ⟨he, KI.of hw⟩
  simp only [Act.put, sA, sB, sC]
  refine rV (KI.pre _ _ _ _) 5 rfl rfl ⟨_, fun v h => by (go_simp; rfl), ?_⟩; simp only [Act.put, sA, sB, sC]
  refine rV (KI.pre _ _ _ _) 6 rfl rfl ⟨_, fun v h => by (go_simp; rfl), ?_⟩; simp only [Act.put, sA, sB, sC]
  refine rV (KI.pre _ _ _ _) 7 rfl rfl ⟨_, fun v h => by (go_simp; rfl), ?_⟩; simp only [Act.put, sA, sB, sC]
  refine rV (KI.pre _ _ _ _) 8 rfl rfl ⟨_, fun v h => by (go_simp; rfl), ?_⟩; simp only [Act.put, sA, sB, sC]
  refine rV (KI.pre _ _ _ _) 9 rfl rfl ⟨_, fun v h => by (go_simp; rfl), ?_⟩; simp only [Act.put, sA, sB, sC]
  refine rV (KI.pre _ _ _ _) 10 rfl rfl ⟨_, fun v h => by (go_simp; rfl), ?_⟩; simp only [Act.put, sA, sB, sC]
  refine rV (KI.pre _ _ _ _) 11 rfl rfl ⟨_, fun v h => by (go_simp; rfl), ?_⟩; simp only [Act.put, sA, sB, sC]
  refine rV (KI.pre _ _ _ _) 12 rfl rfl ⟨_, fun v h => by (go_simp; rfl), ?_⟩; simp only [Act.put, sA, sB, sC]
  refine rV (KI.pre _ _ _ _) 13 rfl rfl ⟨_, fun v h => by (go_simp; rfl), ?_⟩; simp only [Act.put, sA, sB, sC]
  refine anyR_take (KI.pre _ _ _ _) 14 (.int .u32 (wat4 zs 12)) rfl (by kernel_rfl) (by kernel_rfl) (by kernel_rfl) (fun _ _ _ h => h) rfl (fun w1 hw1 => goes_call 122 #[.slice (some ⟨b, off, none⟩) zs.length cap, .int .i64 12] (by go_simp) ?_) ?_
  ·exact (rget32_rd _ zs hB 12 (by omega) hl w1 (hr1 w1 hw1)).mono fun e w' ⟨he, hw⟩ => ⟨he, KI.of hw⟩
  simp only [Act.put, sA, sB, sC]
  refine rV (KI.pre _ _ _ _) 15 rfl rfl ⟨_, fun v h => by (go_simp; rfl), ?_⟩; simp only [Act.put, sA, sB, sC]
  refine anyR_take (KI.pre _ _ _ _) 16 (.int .u32 (wat4 zs 16)) rfl (by kernel_rfl) (by kernel_rfl) (by kernel_rfl) (fun _ _ _ h => h) rfl (fun w1 hw1 => goes_call 122 #[.slice (some ⟨b, off, none⟩) zs.length cap, .int .i64 16] (by go_simp) ?_) ?_
  ·exact (rget32_rd _ zs hB 16 (by omega) hl w1 (hr1 w1 hw1)).mono fun e w' ⟨he, hw⟩ => ⟨he, KI.of hw⟩
  simp only [Act.put, sA, sB, sC]
  refine rV (KI.pre _ _ _ _) 17 rfl rfl ⟨_, fun v h => by (go_simp; rfl), ?_⟩; simp only [Act.put, sA, sB, sC]
  refine anyR_one 18 rfl (by kernel_rfl) rfl (fun W6 hW6 => ?_)
  have hs6 : w4.heap.size ≤ W6.heap.size := (hW5.trans hW6).1.size
  unfold Oper.wp
  go_simp
  refine ⟨KI.of ((Below.refl _ _).alloc (Nat.le_refl _) _), ?_⟩
  refine anyR_one 19 rfl (by kernel_rfl) rfl (fun W7 hW7 => ?_)
  have hwr : Wr W6.heap.size 9 56 W7 := hW7.2.1 _ ⟨_, heap_alloc_new W6 _, rfl⟩
  have hst := KI.store (n₁ := w4.heap.size) [.int .u8 z1, .int .u16 (wat zs 4), .bool (decide (16384 ≤ wat zs 6)), .int .u8 z8, .int .u8 z9, .int .u32 (wat4 zs 12), .int .u32 (wat4 zs 16), .slice none 0 0, .slice none 0 0] hs6 hwr rfl
  obtain ⟨cur, hcur, hsz⟩ := hwr
  have k7 := block_cell hcur
  have f7 := block_frozen hcur
  have HS := hide hst
  clear hst
  unfold Oper.wp
  go_simp
  generalize hV : World.setCell _ ⟨W6.heap.size, 8, none⟩ _ = V
  have hV9 : V = putRow W7 W6.heap.size 0 [.int .u8 z1, .int .u16 (wat zs 4), .bool (decide (16384 ≤ wat zs 6)), .int .u8 z8, .int .u8 z9, .int .u32 (wat4 zs 12), .int .u32 (wat4 zs 16), .slice none 0 0, .slice none 0 0] := hV.symm
  have hst := HS.out
  rw [← hV9] at hst
  clear hV hV9 HS k7 f7
  refine ⟨hst.1, anyR_done (by kernel_rfl) (fun W8 hW8 => ?_)⟩
  have p8 := hW8.2.2 _ hst.2
  have hwW8 : Below w.heap.size w W8 := hbel W8 (((hW6.trans (KI.of ((Below.refl _ _).alloc (Nat.le_refl _) _))).trans hW7).trans (hst.1.trans hW8))
  have hq8 : w.heap.size < W6.heap.size := by omega
  have pw8 : Wr w.heap.size 9 56 W8 := hW8.2.1 _ (hst.1.2.1 _ (hW7.2.1 _ ((KI.of ((Below.refl W6.heap.size W6).alloc (Nat.le_refl _) _) : KI w4.heap.size 56 9 (List.toArray [.int .u8 z1, .int .u16 (wat zs 4), .bool (decide (16384 ≤ wat zs 6)), .int .u8 z8, .int .u8 z9, .int .u32 (wat4 zs 12), .int .u32 (wat4 zs 16), .slice none 0 0, .slice none 0 0]) W6 _).2.1 _ (hW6.2.1 _ (hW5.2.1 _ ⟨_, (hL4.block w.heap.size (by omega)).trans p1, rfl⟩)))))
  generalize W6.heap.size = pb at *
  clear hbel hr1 e1 e8 e9 hst hW7 hW6 hs6 hcur hsz hW8
  have hs8 := (bl9 p8)
  have P8 := block_cell p8
  go_wp2_with fail
  have hR8 := (((hI.below hwW8).take k (by omega)).cutAt 20 (by omega)).drew 1
  obtain ⟨v9, W9, hrun9, hown9, hgr9⟩ := run_app (P := Tryz.prog) W8.drew 31 31 5 (pb + 1) i0 Tryz.underlying31 hi hz0 hz1 hz2 (.slice none 0 0) [] (World.ownsRow_nil _ _ _ _) w.heap.size _ ((zs.take k).drop 20) hR8 (by simp; omega) hs8
  have hl9 : Later W8 W9 := Later.trans (Later.drew W8) ((Below.refl _ W8.drew).grown hgr9 (Nat.le_refl _) (fun _ e => by cases e))
  have hO9 := Ow.of_row hown9
  rw [List.nil_append] at hO9
  obtain ⟨a9, cap9, rfl, hq9, hm9⟩ := hO9.slice
  clear hown9 hgr9 hR8
  have p9 := (hl9.block pb hs8).trans p8
  have P9 := block_cell p9
  have F9 := block_frozen p9
  have hLo : Hid (((zs.take k).drop 20).length = k - 20) := by show _ = _; simp; omega
  rw [hLo.out] at hrun9 hO9
  have i20 : (20 : Int) ≤ k := by omega
  go_region_law (refine step_run rfl (.tmp 92) (.tmp 95) 31 rfl _ _ rfl rfl _ W9 hrun9 ?_)
  clear hrun9 P8 P9 F9
  generalize (if cap = 20 then some (⟨b, off, none⟩ : Addr) else some ⟨b, off + 20, none⟩) = ad20 at *
  have p10 : (W9.setCell ⟨pb, 7, none⟩ (.slice a9 (k - 20) cap9)).heap[pb]? = some (.cells (List.toArray [.int .u8 z1, .int .u16 (wat zs 4), .bool (decide (16384 ≤ wat zs 6)), .int .u8 z8, .int .u8 z9, .int .u32 (wat4 zs 12), .int .u32 (wat4 zs 16), .slice a9 (k - 20) cap9, .slice none 0 0]) 56 (0, 0)) := heap_set1 p9 7 (.slice a9 (k - 20) cap9)
  have hE9 : But (fun b => b = pb) W9 (W9.setCell ⟨pb, 7, none⟩ (.slice a9 (k - 20) cap9)) := (But.refl (fun b => b = pb) W9).setCell (p := ⟨pb, 7, none⟩) (E := fun b => b = pb) rfl _
  have hO10 := hO9.but hE9 (fun b h e => by omega)
  have hw10 : Below w.heap.size w _ := (hwW8.trans (hl9.mono hwW8.size)).setCell (p := ⟨pb, 7, none⟩) (Nat.le_of_lt hq8) (.slice a9 (k - 20) cap9)
  have pw10 : Wr w.heap.size 9 56 (W9.setCell ⟨pb, 7, none⟩ (.slice a9 (k - 20) cap9)) := by
   obtain ⟨c, h1, h2⟩ := pw8.later hl9
   exact ⟨c, (hE9.block _ (bl9 h1) (by omega)).trans h1, h2⟩
  generalize W9.setCell ⟨pb, 7, none⟩ (.slice a9 (k - 20) cap9) = W10 at *
  clear hO9 p9 hE9 hl9 hwW8 pw8
  have hs10 := (bl9 p10)
  have P10 := block_cell p10
  go_wp2_with fail
  have hR10 := (((hI.below hw10).take n (by omega)).cutAt k (by omega)).drew 1
  obtain ⟨v11, W11, hrun11, hown11, hgr11⟩ := run_app (P := Tryz.prog) W10.drew 31 31 5 (pb + 1) i0 Tryz.underlying31 hi hz0 hz1 hz2 (.slice none 0 0) [] (World.ownsRow_nil _ _ _ _) w.heap.size _ ((zs.take n).drop k) hR10 (by simp; omega) hs10
  have hl11 : Later W10 W11 := Later.trans (Later.drew W10) ((Below.refl _ W10.drew).grown hgr11 (Nat.le_refl _) (fun _ e => by cases e))
  have hO11 := Ow.of_row hown11
  rw [List.nil_append] at hO11
  obtain ⟨a11, cap11, rfl, hq11, hm11⟩ := hO11.slice
  clear hown11 hgr11 hR10
  have p11 := (hl11.block pb hs10).trans p10
  have P11 := block_cell p11
  have F11 := block_frozen p11
  have hLd : Hid (((zs.take n).drop k).length = n - k) := by show _ = _; simp; try omega
  rw [hLd.out] at hrun11 hO11
  have ikn : (k : Int) ≤ n := by omega
  have inc : n ≤ cap := by omega
  have inc2 : (n : Int) ≤ cap := by omega
  go_region_law (refine step_run rfl (.tmp 99) (.tmp 103) 31 rfl _ _ rfl rfl _ W11 hrun11 ?_)
  clear hrun11 P10 P11 F11
  generalize (if cap = k then some (⟨b, off, none⟩ : Addr) else some ⟨b, off + k, none⟩) = adk at *
  have p12 : (W11.setCell ⟨pb, 8, none⟩ (.slice a11 (n - k) cap11)).heap[pb]? = some (.cells (List.toArray [.int .u8 z1, .int .u16 (wat zs 4), .bool (decide (16384 ≤ wat zs 6)), .int .u8 z8, .int .u8 z9, .int .u32 (wat4 zs 12), .int .u32 (wat4 zs 16), .slice a9 (k - 20) cap9, .slice a11 (n - k) cap11]) 56 (0, 0)) := heap_set1 p11 8 (.slice a11 (n - k) cap11)
  have hE11 : But (fun b => b = pb) W11 (W11.setCell ⟨pb, 8, none⟩ (.slice a11 (n - k) cap11)) := (But.refl (fun b => b = pb) W11).setCell (p := ⟨pb, 8, none⟩) (E := fun b => b = pb) rfl _
  have hO12 := hO11.but hE11 (fun b h e => by omega)
  have hO13 := (hO10.below hl11 (Nat.le_refl _)).but hE11 (fun b h e => by omega)
  have hw12 : Below w.heap.size w _ := (hw10.trans (hl11.mono hw10.size)).setCell (p := ⟨pb, 8, none⟩) (Nat.le_of_lt hq8) (.slice a11 (n - k) cap11)
  have pw12 : Wr w.heap.size 9 56 (W11.setCell ⟨pb, 8, none⟩ (.slice a11 (n - k) cap11)) := by
   obtain ⟨c, h1, h2⟩ := pw10.later hl11
   exact ⟨c, (hE11.block _ (bl9 h1) (by omega)).trans h1, h2⟩
  generalize W11.setCell ⟨pb, 8, none⟩ (.slice a11 (n - k) cap11) = W12 at *
  clear hO11 p11 hE11 hl11 hw10 pw10 hO10
  have P12 := block_cell p12
  obtain ⟨cur, hcur, hsz⟩ := pw12
  have C12 := block_cell hcur
  have F12 := block_frozen hcur
  go_wp2_with fail
  generalize hV : World.setCell _ ⟨w.heap.size, 8, none⟩ _ = V
  have hV9 : V = putRow W12 w.heap.size 0 [.int .u8 z1, .int .u16 (wat zs 4), .bool (decide (16384 ≤ wat zs 6)), .int .u8 z8, .int .u8 z9, .int .u32 (wat4 zs 12), .int .u32 (wat4 zs 16), .slice a9 (k - 20) cap9, .slice a11 (n - k) cap11] := hV.symm
  have hb13 : But (fun b => b = w.heap.size) W12 V := by rw [hV9]; exact putRow_but (E := fun b => b = w.heap.size) (n := w.heap.size) rfl _ _ _ _ (But.refl _ _)
  have p13 := putRow_all [.int .u8 z1, .int .u16 (wat zs 4), .bool (decide (16384 ≤ wat zs 6)), .int .u8 z8, .int .u8 z9, .int .u32 (wat4 zs 12), .int .u32 (wat4 zs 16), .slice a9 (k - 20) cap9, .slice a11 (n - k) cap11] hcur (by simpa using hsz)
  rw [← hV9] at p13
  have hd : decide (16384 ≤ wat zs 6 % 32768) = decide (16384 ≤ wat zs 6) := by rw [Int.emod_eq_of_lt (by omega) (by omega)]
  have hpk : pkt zs (.slice a9 (k - 20) cap9) (.slice a11 (n - k) cap11) = .agg (List.toArray [.int .u8 z1, .int .u16 (wat zs 4), .bool (decide (16384 ≤ wat zs 6)), .int .u8 z8, .int .u8 z9, .int .u32 (wat4 zs 12), .int .u32 (wat4 zs 16), .slice a9 (k - 20) cap9, .slice a11 (n - k) cap11]) := by unfold pkt; rw [G1.out, G8.out, G9.out, hd]
  refine bodyPost_ret (v := .tuple #[pkt zs (.slice a9 (k - 20) cap9) (.slice a11 (n - k) cap11), .int .i64 0]) (by rw [hpk]; exact res_rread _ w.heap.size 0 _ _ _ _ _ _ _ _ _ V rfl rfl p13) rfl ⟨hw12.trans (hb13.below hw12.size (fun j h e => by omega)), .inr ⟨HR.out, _, _, rfl, ?_, ?_⟩⟩
  ·rw [HK.out, Int.toNat_natCast]
   exact (hO13.but hb13 (fun b h e => by omega)).mono (by omega)
  ·rw [HK.out, HN.out, Int.toNat_natCast, Int.toNat_natCast]
   exact (hO12.but hb13 (fun b h e => by omega)).mono (by omega)
 ·by_cases h6 : (zs.length : Int) < wat zs 2
  ·go_wp2_with fail
   refine (rgood_any _ (zs.take k) (hB.take _) (by simp; omega) w2 (((hI.take k (by omega)).below (hb1.trans (hl2.mono (by omega)))).mono (by omega))).mono ?_
   rintro e w3 ⟨rfl, hl3⟩
   have hL3 : Later _ w3 := hl2.trans hl3
   have z3 := hL3.size
   cases hg : (Mt.cks (zs.take k) == 0)
   ·have hc5 : chk zs = 5 := by unfold chk; rw [HK.out, Int.toNat_natCast, if_pos (by simpa using hg)]
    have HR : Hid (rde true zs = 5) := by show _ = _; unfold rde; rw [hm0.out, if_neg (by simp), if_neg (by simp [ral]; omega), hc5]; rfl
    clear hc5
    have pk := ((hL3).block w.heap.size (by omega)).trans p1
    have Pk := block_cell pk
    have Fk := block_frozen pk
    go_wp2_with fail
    clear Pk Fk
    generalize hV : World.setCell _ ⟨w.heap.size, 8, none⟩ _ = V
    have hV9 : V = putRow w3 w.heap.size 0 zc := hV.symm
    have hb8 : But (fun b => b = w.heap.size) w3 V := by rw [hV9]; exact putRow_but (E := fun b => b = w.heap.size) (n := w.heap.size) rfl _ _ _ _ (But.refl _ _)
    have p8 := putRow_all zc pk rfl
    rw [← hV9] at p8
    exact rexit _ w.heap.size 5 _ rfl rfl p8 ⟨(hb1.trans ((hL3).mono (by omega))).trans (hb8.below (Nat.le_trans (by omega) (hL3).size) (fun j h e => by omega)), .inl (by rw [HR.out]; exact ⟨by omega, rfl⟩)⟩
   have hg0 : Mt.cks (zs.take k) = 0 := by simpa using hg
   have Hg := hide hg0
   clear hg hg0
   go_wp2_with fail
   refine (rget16_rd _ zs hB 6 (by omega) hl w3 (hI.below (hb1.trans (hL3.mono (by omega))))).mono ?_
   rintro e w4 ⟨rfl, hl4'⟩
   have hL4 : Later _ w4 := hL3.trans hl4'
   have z4 := hL4.size
   have hff := wat_bd hB 6
   by_cases h7 : wat zs 6 % 16384 ≠ 0
   ·have t7 : (wat zs 6 % 16384 != 0) = true := by simpa using h7
    have hc5 : chk zs = 7 := by unfold chk; rw [HK.out, Int.toNat_natCast, if_neg (by simp [Hg.out]), if_pos h7]
    have HR : Hid (rde true zs = 7) := by show _ = _; unfold rde; rw [hm0.out, if_neg (by simp), if_neg (by simp [ral]; omega), hc5]; rfl
    clear hc5
    have pk := ((hL4).block w.heap.size (by omega)).trans p1
    have Pk := block_cell pk
    have Fk := block_frozen pk
    go_wp2_with fail
    clear Pk Fk
    generalize hV : World.setCell _ ⟨w.heap.size, 8, none⟩ _ = V
    have hV9 : V = putRow w4 w.heap.size 0 zc := hV.symm
    have hb8 : But (fun b => b = w.heap.size) w4 V := by rw [hV9]; exact putRow_but (E := fun b => b = w.heap.size) (n := w.heap.size) rfl _ _ _ _ (But.refl _ _)
    have p8 := putRow_all zc pk rfl
    rw [← hV9] at p8
    exact rexit _ w.heap.size 7 _ rfl rfl p8 ⟨(hb1.trans ((hL4).mono (by omega))).trans (hb8.below (Nat.le_trans (by omega) (hL4).size) (fun j h e => by omega)), .inl (by rw [HR.out]; exact ⟨by omega, rfl⟩)⟩
   have t7 : (wat zs 6 % 16384 != 0) = false := by simpa using h7
   by_cases h8 : 32768 ≤ wat zs 6
   ·have hc5 : chk zs = 4 := by unfold chk; rw [HK.out, Int.toNat_natCast, if_neg (by simp [Hg.out]), if_neg h7, if_pos h8]
    have HR : Hid (rde true zs = 4) := by show _ = _; unfold rde; rw [hm0.out, if_neg (by simp), if_neg (by simp [ral]; omega), hc5]; rfl
    clear hc5
    have pk := ((hL4).block w.heap.size (by omega)).trans p1
    have Pk := block_cell pk
    have Fk := block_frozen pk
    go_wp2_with fail
    clear Pk Fk
    generalize hV : World.setCell _ ⟨w.heap.size, 8, none⟩ _ = V
    have hV9 : V = putRow w4 w.heap.size 0 zc := hV.symm
    have hb8 : But (fun b => b = w.heap.size) w4 V := by rw [hV9]; exact putRow_but (E := fun b => b = w.heap.size) (n := w.heap.size) rfl _ _ _ _ (But.refl _ _)
    have p8 := putRow_all zc pk rfl
    rw [← hV9] at p8
    exact rexit _ w.heap.size 4 _ rfl rfl p8 ⟨(hb1.trans ((hL4).mono (by omega))).trans (hb8.below (Nat.le_trans (by omega) (hL4).size) (fun j h e => by omega)), .inl (by rw [HR.out]; exact ⟨by omega, rfl⟩)⟩
   have hc0 : Hid (chk zs = 0) := by show _ = _; unfold chk; rw [HK.out, Int.toNat_natCast, if_neg (by simp [Hg.out]), if_neg h7, if_neg h8]
   by_cases h9 : (zs.length : Int) - (k : Int) < 8
   ·have HR : Hid (rde true zs = 3) := by show _ = _; unfold rde; rw [hm0.out, if_neg (by simp), if_neg (by simp [ral]; omega), hc0.out, if_neg (by simp), HK.out, if_pos ⟨rfl, by simp [ral]; omega⟩]
    have pk := ((hL4).block w.heap.size (by omega)).trans p1
    have Pk := block_cell pk
    have Fk := block_frozen pk
    go_wp2_with fail
    clear Pk Fk
    generalize hV : World.setCell _ ⟨w.heap.size, 8, none⟩ _ = V
    have hV9 : V = putRow w4 w.heap.size 0 zc := hV.symm
    have hb8 : But (fun b => b = w.heap.size) w4 V := by rw [hV9]; exact putRow_but (E := fun b => b = w.heap.size) (n := w.heap.size) rfl _ _ _ _ (But.refl _ _)
    have p8 := putRow_all zc pk rfl
    rw [← hV9] at p8
    exact rexit _ w.heap.size 3 _ rfl rfl p8 ⟨(hb1.trans ((hL4).mono (by omega))).trans (hb8.below (Nat.le_trans (by omega) (hL4).size) (fun j h e => by omega)), .inl (by rw [HR.out]; exact ⟨by omega, rfl⟩)⟩
   have HR : Hid (rde true zs = 0) := by show _ = _; unfold rde; rw [hm0.out, if_neg (by simp), if_neg (by simp [ral]; omega), hc0.out, if_neg (by simp), HK.out, if_neg (by simp [ral]; omega)]
   go_wp2_with fail
   have hkn : 20 ≤ k ∧ k ≤ zs.length ∧ zs.length ≤ zs.length := by omega
   have HN : Hid (ral true zs = (zs.length : Int)) := by show _ = _; simp [ral]; omega
   have d1 := hc 1 (by omega)
   have d8 := hc 8 (by omega)
   have d9 := hc 9 (by omega)
   have hbw4 := hb1.trans (hL4.mono (by omega))
   generalize gz1 : zs[1]?.getD 0 = z1 at *
   generalize gz8 : zs[8]?.getD 0 = z8 at *
   generalize gz9 : zs[9]?.getD 0 = z9 at *
   have G1 := hide gz1
   have G8 := hide gz8
   have G9 := hide gz9
   clear gz1 gz8 gz9
   have i1 : (1 : Int) < zs.length := by omega
   have i8 : (8 : Int) < zs.length := by omega
   have i9 : (9 : Int) < zs.length := by omega
   refine anyR_begin (R := KI w4.heap.size 56 9 (List.toArray [.int .u8 z1, .int .u16 (wat zs 4), .bool (decide (16384 ≤ wat zs 6)), .int .u8 z8, .int .u8 z9, .int .u32 (wat4 zs 12), .int .u32 (wat4 zs 16), .slice none 0 0, .slice none 0 0])) (KI.pre _ _ _ _) (fun w => KI.of (Later.drew w)) 20 rfl (by kernel_rfl) (fun W5 hW5 => ?_)
   have hbel : ∀ w1, KI w4.heap.size 56 9 (List.toArray [.int .u8 z1, .int .u16 (wat zs 4), .bool (decide (16384 ≤ wat zs 6)), .int .u8 z8, .int .u8 z9, .int .u32 (wat4 zs 12), .int .u32 (wat4 zs 16), .slice none 0 0, .slice none 0 0]) W5 w1 → Below w.heap.size w w1 := fun w1 h => hbw4.trans (((hW5.trans h).1.below (Nat.le_refl _) (fun k hk e => by omega)).mono (by omega))
   have hr1 : ∀ w1, KI w4.heap.size 56 9 (List.toArray [.int .u8 z1, .int .u16 (wat zs 4), .bool (decide (16384 ≤ wat zs 6)), .int .u8 z8, .int .u8 z9, .int .u32 (wat4 zs 12), .int .u32 (wat4 zs 16), .slice none 0 0, .slice none 0 0]) W5 w1 → Rd w.heap.size w1 (.slice (some ⟨b, off, none⟩) zs.length cap) zs := fun w1 h => hI.below (hbel w1 h)
   have e1 : ∀ w1, KI w4.heap.size 56 9 (List.toArray [.int .u8 z1, .int .u16 (wat zs 4), .bool (decide (16384 ≤ wat zs 6)), .int .u8 z8, .int .u8 z9, .int .u32 (wat4 zs 12), .int .u32 (wat4 zs 16), .slice none 0 0, .slice none 0 0]) W5 w1 → w1.cell? ⟨b, off + 1, none⟩ = some (.int .u8 z1) := fun w1 h => ((hbel w1 h).cell (p := ⟨b, off + 1, none⟩) hb).trans d1
   have e8 : ∀ w1, KI w4.heap.size 56 9 (List.toArray [.int .u8 z1, .int .u16 (wat zs 4), .bool (decide (16384 ≤ wat zs 6)), .int .u8 z8, .int .u8 z9, .int .u32 (wat4 zs 12), .int .u32 (wat4 zs 16), .slice none 0 0, .slice none 0 0]) W5 w1 → w1.cell? ⟨b, off + 8, none⟩ = some (.int .u8 z8) := fun w1 h => ((hbel w1 h).cell (p := ⟨b, off + 8, none⟩) hb).trans d8
   have e9 : ∀ w1, KI w4.heap.size 56 9 (List.toArray [.int .u8 z1, .int .u16 (wat zs 4), .bool (decide (16384 ≤ wat zs 6)), .int .u8 z8, .int .u8 z9, .int .u32 (wat4 zs 12), .int .u32 (wat4 zs 16), .slice none 0 0, .slice none 0 0]) W5 w1 → w1.cell? ⟨b, off + 9, none⟩ = some (.int .u8 z9) := fun w1 h => ((hbel w1 h).cell (p := ⟨b, off + 9, none⟩) hb).trans d9
   clear d1 d8 d9
   refine rV (KI.pre _ _ _ _) 0 rfl rfl ⟨_, fun v h => by (go_simp; rfl), ?_⟩; simp only [Act.put, sA, sB, sC]
   refine rV (KI.pre _ _ _ _) 1 rfl rfl ⟨_, fun v h => by (go_simp; rfl), ?_⟩; simp only [Act.put, sA, sB, sC]
   refine rV (KI.pre _ _ _ _) 2 rfl rfl ⟨_, fun v h => by (go_simp; rfl), ?_⟩; simp only [Act.put, sA, sB, sC]
   refine rV (KI.pre _ _ _ _) 3 rfl rfl ⟨_, fun v h => by (go_simp; rfl), ?_⟩; simp only [Act.put, sA, sB, sC]
   refine anyR_take (KI.pre _ _ _ _) 4 (.int .u16 (wat zs 4)) rfl (by kernel_rfl) (by kernel_rfl) (by kernel_rfl) (fun _ _ _ h => h) rfl (fun w1 hw1 => goes_call 120 #[.slice (some ⟨b, off, none⟩) zs.length cap, .int .i64 4] (by go_simp) ?_) ?_
   ·exact (rget16_rd _ zs hB 4 (by omega) hl w1 (hr1 w1 hw1)).mono fun e w' ⟨he, hw⟩ => ⟨he, KI.of hw⟩
   simp only [Act.put, sA, sB, sC]
   refine rV (KI.pre _ _ _ _) 5 rfl rfl ⟨_, fun v h => by (go_simp; rfl), ?_⟩; simp only [Act.put, sA, sB, sC]
   refine rV (KI.pre _ _ _ _) 6 rfl rfl ⟨_, fun v h => by (go_simp; rfl), ?_⟩; simp only [Act.put, sA, sB, sC]
   refine rV (KI.pre _ _ _ _) 7 rfl rfl ⟨_, fun v h => by (go_simp; rfl), ?_⟩; simp only [Act.put, sA, sB, sC]
   refine rV (KI.pre _ _ _ _) 8 rfl rfl ⟨_, fun v h => by (go_simp; rfl), ?_⟩; simp only [Act.put, sA, sB, sC]
   refine rV (KI.pre _ _ _ _) 9 rfl rfl ⟨_, fun v h => by (go_simp; rfl), ?_⟩; simp only [Act.put, sA, sB, sC]
   refine rV (KI.pre _ _ _ _) 10 rfl rfl ⟨_, fun v h => by (go_simp; rfl), ?_⟩; simp only [Act.put, sA, sB, sC]
   refine rV (KI.pre _ _ _ _) 11 rfl rfl ⟨_, fun v h => by (go_simp; rfl), ?_⟩; simp only [Act.put, sA, sB, sC]
   refine rV (KI.pre _ _ _ _) 12 rfl rfl ⟨_, fun v h => by (go_simp; rfl), ?_⟩; simp only [Act.put, sA, sB, sC]
   refine rV (KI.pre _ _ _ _) 13 rfl rfl ⟨_, fun v h => by (go_simp; rfl), ?_⟩; simp only [Act.put, sA, sB, sC]
   refine anyR_take (KI.pre _ _ _ _) 14 (.int .u32 (wat4 zs 12)) rfl (by kernel_rfl) (by kernel_rfl) (by kernel_rfl) (fun _ _ _ h => h) rfl (fun w1 hw1 => goes_call 122 #[.slice (some ⟨b, off, none⟩) zs.length cap, .int .i64 12] (by go_simp) ?_) ?_
   ·exact (rget32_rd _ zs hB 12 (by omega) hl w1 (hr1 w1 hw1)).mono fun e w' ⟨he, hw⟩ => ⟨he, KI.of hw⟩
   simp only [Act.put, sA, sB, sC]
   refine rV (KI.pre _ _ _ _) 15 rfl rfl ⟨_, fun v h => by (go_simp; rfl), ?_⟩; simp only [Act.put, sA, sB, sC]
   refine anyR_take (KI.pre _ _ _ _) 16 (.int .u32 (wat4 zs 16)) rfl (by kernel_rfl) (by kernel_rfl) (by kernel_rfl) (fun _ _ _ h => h) rfl (fun w1 hw1 => goes_call 122 #[.slice (some ⟨b, off, none⟩) zs.length cap, .int .i64 16] (by go_simp) ?_) ?_
   ·exact (rget32_rd _ zs hB 16 (by omega) hl w1 (hr1 w1 hw1)).mono fun e w' ⟨he, hw⟩ => ⟨he, KI.of hw⟩
   simp only [Act.put, sA, sB, sC]
   refine rV (KI.pre _ _ _ _) 17 rfl rfl ⟨_, fun v h => by (go_simp; rfl), ?_⟩; simp only [Act.put, sA, sB, sC]
   refine anyR_one 18 rfl (by kernel_rfl) rfl (fun W6 hW6 => ?_)
   have hs6 : w4.heap.size ≤ W6.heap.size := (hW5.trans hW6).1.size
   unfold Oper.wp
   go_simp
   refine ⟨KI.of ((Below.refl _ _).alloc (Nat.le_refl _) _), ?_⟩
   refine anyR_one 19 rfl (by kernel_rfl) rfl (fun W7 hW7 => ?_)
   have hwr : Wr W6.heap.size 9 56 W7 := hW7.2.1 _ ⟨_, heap_alloc_new W6 _, rfl⟩
   have hst := KI.store (n₁ := w4.heap.size) [.int .u8 z1, .int .u16 (wat zs 4), .bool (decide (16384 ≤ wat zs 6)), .int .u8 z8, .int .u8 z9, .int .u32 (wat4 zs 12), .int .u32 (wat4 zs 16), .slice none 0 0, .slice none 0 0] hs6 hwr rfl
   obtain ⟨cur, hcur, hsz⟩ := hwr
   have k7 := block_cell hcur
   have f7 := block_frozen hcur
   have HS := hide hst
   clear hst
   unfold Oper.wp
   go_simp
   generalize hV : World.setCell _ ⟨W6.heap.size, 8, none⟩ _ = V
   have hV9 : V = putRow W7 W6.heap.size 0 [.int .u8 z1, .int .u16 (wat zs 4), .bool (decide (16384 ≤ wat zs 6)), .int .u8 z8, .int .u8 z9, .int .u32 (wat4 zs 12), .int .u32 (wat4 zs 16), .slice none 0 0, .slice none 0 0] := hV.symm
   have hst := HS.out
   rw [← hV9] at hst
   clear hV hV9 HS k7 f7
   refine ⟨hst.1, anyR_done (by kernel_rfl) (fun W8 hW8 => ?_)⟩
   have p8 := hW8.2.2 _ hst.2
   have hwW8 : Below w.heap.size w W8 := hbel W8 (((hW6.trans (KI.of ((Below.refl _ _).alloc (Nat.le_refl _) _))).trans hW7).trans (hst.1.trans hW8))
   have hq8 : w.heap.size < W6.heap.size := by omega
   have pw8 : Wr w.heap.size 9 56 W8 := hW8.2.1 _ (hst.1.2.1 _ (hW7.2.1 _ ((KI.of ((Below.refl W6.heap.size W6).alloc (Nat.le_refl _) _) : KI w4.heap.size 56 9 (List.toArray [.int .u8 z1, .int .u16 (wat zs 4), .bool (decide (16384 ≤ wat zs 6)), .int .u8 z8, .int .u8 z9, .int .u32 (wat4 zs 12), .int .u32 (wat4 zs 16), .slice none 0 0, .slice none 0 0]) W6 _).2.1 _ (hW6.2.1 _ (hW5.2.1 _ ⟨_, (hL4.block w.heap.size (by omega)).trans p1, rfl⟩)))))
   generalize W6.heap.size = pb at *
   clear hbel hr1 e1 e8 e9 hst hW7 hW6 hs6 hcur hsz hW8
   have hs8 := (bl9 p8)
   have P8 := block_cell p8
   go_wp2_with fail
   have hR8 := (((hI.below hwW8).take k (by omega)).cutAt 20 (by omega)).drew 1
   obtain ⟨v9, W9, hrun9, hown9, hgr9⟩ := run_app (P := Tryz.prog) W8.drew 31 31 5 (pb + 1) i0 Tryz.underlying31 hi hz0 hz1 hz2 (.slice none 0 0) [] (World.ownsRow_nil _ _ _ _) w.heap.size _ ((zs.take k).drop 20) hR8 (by simp; omega) hs8
   have hl9 : Later W8 W9 := Later.trans (Later.drew W8) ((Below.refl _ W8.drew).grown hgr9 (Nat.le_refl _) (fun _ e => by cases e))
   have hO9 := Ow.of_row hown9
   rw [List.nil_append] at hO9
   obtain ⟨a9, cap9, rfl, hq9, hm9⟩ := hO9.slice
   clear hown9 hgr9 hR8
   have p9 := (hl9.block pb hs8).trans p8
   have P9 := block_cell p9
   have F9 := block_frozen p9
   have hLo : Hid (((zs.take k).drop 20).length = k - 20) := by show _ = _; simp; omega
   rw [hLo.out] at hrun9 hO9
   have i20 : (20 : Int) ≤ k := by omega
   go_region_law (refine step_run rfl (.tmp 92) (.tmp 95) 31 rfl _ _ rfl rfl _ W9 hrun9 ?_)
   clear hrun9 P8 P9 F9
   generalize (if cap = 20 then some (⟨b, off, none⟩ : Addr) else some ⟨b, off + 20, none⟩) = ad20 at *
   have p10 : (W9.setCell ⟨pb, 7, none⟩ (.slice a9 (k - 20) cap9)).heap[pb]? = some (.cells (List.toArray [.int .u8 z1, .int .u16 (wat zs 4), .bool (decide (16384 ≤ wat zs 6)), .int .u8 z8, .int .u8 z9, .int .u32 (wat4 zs 12), .int .u32 (wat4 zs 16), .slice a9 (k - 20) cap9, .slice none 0 0]) 56 (0, 0)) := heap_set1 p9 7 (.slice a9 (k - 20) cap9)
   have hE9 : But (fun b => b = pb) W9 (W9.setCell ⟨pb, 7, none⟩ (.slice a9 (k - 20) cap9)) := (But.refl (fun b => b = pb) W9).setCell (p := ⟨pb, 7, none⟩) (E := fun b => b = pb) rfl _
   have hO10 := hO9.but hE9 (fun b h e => by omega)
   have hw10 : Below w.heap.size w _ := (hwW8.trans (hl9.mono hwW8.size)).setCell (p := ⟨pb, 7, none⟩) (Nat.le_of_lt hq8) (.slice a9 (k - 20) cap9)
   have pw10 : Wr w.heap.size 9 56 (W9.setCell ⟨pb, 7, none⟩ (.slice a9 (k - 20) cap9)) := by
    obtain ⟨c, h1, h2⟩ := pw8.later hl9
    exact ⟨c, (hE9.block _ (bl9 h1) (by omega)).trans h1, h2⟩
   generalize W9.setCell ⟨pb, 7, none⟩ (.slice a9 (k - 20) cap9) = W10 at *
   clear hO9 p9 hE9 hl9 hwW8 pw8
   have hs10 := (bl9 p10)
   have P10 := block_cell p10
   go_wp2_with fail
   have hR10 := (((hI.below hw10).take zs.length (by omega)).cutAt k (by omega)).drew 1
   obtain ⟨v11, W11, hrun11, hown11, hgr11⟩ := run_app (P := Tryz.prog) W10.drew 31 31 5 (pb + 1) i0 Tryz.underlying31 hi hz0 hz1 hz2 (.slice none 0 0) [] (World.ownsRow_nil _ _ _ _) w.heap.size _ ((zs.take zs.length).drop k) hR10 (by simp; omega) hs10
   have hl11 : Later W10 W11 := Later.trans (Later.drew W10) ((Below.refl _ W10.drew).grown hgr11 (Nat.le_refl _) (fun _ e => by cases e))
   have hO11 := Ow.of_row hown11
   rw [List.nil_append] at hO11
   obtain ⟨a11, cap11, rfl, hq11, hm11⟩ := hO11.slice
   clear hown11 hgr11 hR10
   have p11 := (hl11.block pb hs10).trans p10
   have P11 := block_cell p11
   have F11 := block_frozen p11
   have hLd : Hid (((zs.take zs.length).drop k).length = zs.length - k) := by show _ = _; simp; try omega
   rw [hLd.out] at hrun11 hO11
   have ikn : (k : Int) ≤ zs.length := by omega
   have inc : zs.length ≤ cap := by omega
   have inc2 : (zs.length : Int) ≤ cap := by omega
   go_region_law (refine step_run rfl (.tmp 99) (.tmp 103) 31 rfl _ _ rfl rfl _ W11 hrun11 ?_)
   clear hrun11 P10 P11 F11
   generalize (if cap = k then some (⟨b, off, none⟩ : Addr) else some ⟨b, off + k, none⟩) = adk at *
   have p12 : (W11.setCell ⟨pb, 8, none⟩ (.slice a11 (zs.length - k) cap11)).heap[pb]? = some (.cells (List.toArray [.int .u8 z1, .int .u16 (wat zs 4), .bool (decide (16384 ≤ wat zs 6)), .int .u8 z8, .int .u8 z9, .int .u32 (wat4 zs 12), .int .u32 (wat4 zs 16), .slice a9 (k - 20) cap9, .slice a11 (zs.length - k) cap11]) 56 (0, 0)) := heap_set1 p11 8 (.slice a11 (zs.length - k) cap11)
   have hE11 : But (fun b => b = pb) W11 (W11.setCell ⟨pb, 8, none⟩ (.slice a11 (zs.length - k) cap11)) := (But.refl (fun b => b = pb) W11).setCell (p := ⟨pb, 8, none⟩) (E := fun b => b = pb) rfl _
   have hO12 := hO11.but hE11 (fun b h e => by omega)
   have hO13 := (hO10.below hl11 (Nat.le_refl _)).but hE11 (fun b h e => by omega)
   have hw12 : Below w.heap.size w _ := (hw10.trans (hl11.mono hw10.size)).setCell (p := ⟨pb, 8, none⟩) (Nat.le_of_lt hq8) (.slice a11 (zs.length - k) cap11)
   have pw12 : Wr w.heap.size 9 56 (W11.setCell ⟨pb, 8, none⟩ (.slice a11 (zs.length - k) cap11)) := by
    obtain ⟨c, h1, h2⟩ := pw10.later hl11
    exact ⟨c, (hE11.block _ (bl9 h1) (by omega)).trans h1, h2⟩
   generalize W11.setCell ⟨pb, 8, none⟩ (.slice a11 (zs.length - k) cap11) = W12 at *
   clear hO11 p11 hE11 hl11 hw10 pw10 hO10
   have P12 := block_cell p12
   obtain ⟨cur, hcur, hsz⟩ := pw12
   have C12 := block_cell hcur
   have F12 := block_frozen hcur
   go_wp2_with fail
   generalize hV : World.setCell _ ⟨w.heap.size, 8, none⟩ _ = V
   have hV9 : V = putRow W12 w.heap.size 0 [.int .u8 z1, .int .u16 (wat zs 4), .bool (decide (16384 ≤ wat zs 6)), .int .u8 z8, .int .u8 z9, .int .u32 (wat4 zs 12), .int .u32 (wat4 zs 16), .slice a9 (k - 20) cap9, .slice a11 (zs.length - k) cap11] := hV.symm
   have hb13 : But (fun b => b = w.heap.size) W12 V := by rw [hV9]; exact putRow_but (E := fun b => b = w.heap.size) (n := w.heap.size) rfl _ _ _ _ (But.refl _ _)
   have p13 := putRow_all [.int .u8 z1, .int .u16 (wat zs 4), .bool (decide (16384 ≤ wat zs 6)), .int .u8 z8, .int .u8 z9, .int .u32 (wat4 zs 12), .int .u32 (wat4 zs 16), .slice a9 (k - 20) cap9, .slice a11 (zs.length - k) cap11] hcur (by simpa using hsz)
   rw [← hV9] at p13
   have hd : decide (16384 ≤ wat zs 6 % 32768) = decide (16384 ≤ wat zs 6) := by rw [Int.emod_eq_of_lt (by omega) (by omega)]
   have hpk : pkt zs (.slice a9 (k - 20) cap9) (.slice a11 (zs.length - k) cap11) = .agg (List.toArray [.int .u8 z1, .int .u16 (wat zs 4), .bool (decide (16384 ≤ wat zs 6)), .int .u8 z8, .int .u8 z9, .int .u32 (wat4 zs 12), .int .u32 (wat4 zs 16), .slice a9 (k - 20) cap9, .slice a11 (zs.length - k) cap11]) := by unfold pkt; rw [G1.out, G8.out, G9.out, hd]
   refine bodyPost_ret (v := .tuple #[pkt zs (.slice a9 (k - 20) cap9) (.slice a11 (zs.length - k) cap11), .int .i64 0]) (by rw [hpk]; exact res_rread _ w.heap.size 0 _ _ _ _ _ _ _ _ _ V rfl rfl p13) rfl ⟨hw12.trans (hb13.below hw12.size (fun j h e => by omega)), .inr ⟨HR.out, _, _, rfl, ?_, ?_⟩⟩
   ·rw [HK.out, Int.toNat_natCast]
    exact (hO13.but hb13 (fun b h e => by omega)).mono (by omega)
   ·rw [HK.out, HN.out, Int.toNat_natCast, Int.toNat_natCast]
    exact (hO12.but hb13 (fun b h e => by omega)).mono (by omega)
  ·go_wp2_with fail
   refine (rgood_any _ (zs.take k) (hB.take _) (by simp; omega) w2 (((hI.take k (by omega)).below (hb1.trans (hl2.mono (by omega)))).mono (by omega))).mono ?_
   rintro e w3 ⟨rfl, hl3⟩
   have hL3 : Later _ w3 := hl2.trans hl3
   have z3 := hL3.size
   cases hg : (Mt.cks (zs.take k) == 0)
   ·have hc5 : chk zs = 5 := by unfold chk; rw [HK.out, Int.toNat_natCast, if_pos (by simpa using hg)]
    have HR : Hid (rde true zs = 5) := by show _ = _; unfold rde; rw [hm0.out, if_neg (by simp), if_neg (by simp [ral]; omega), hc5]; rfl
    clear hc5
    have pk := ((hL3).block w.heap.size (by omega)).trans p1
    have Pk := block_cell pk
    have Fk := block_frozen pk
    go_wp2_with fail
    clear Pk Fk
    generalize hV : World.setCell _ ⟨w.heap.size, 8, none⟩ _ = V
    have hV9 : V = putRow w3 w.heap.size 0 zc := hV.symm
    have hb8 : But (fun b => b = w.heap.size) w3 V := by rw [hV9]; exact putRow_but (E := fun b => b = w.heap.size) (n := w.heap.size) rfl _ _ _ _ (But.refl _ _)
    have p8 := putRow_all zc pk rfl
    rw [← hV9] at p8
    exact rexit _ w.heap.size 5 _ rfl rfl p8 ⟨(hb1.trans ((hL3).mono (by omega))).trans (hb8.below (Nat.le_trans (by omega) (hL3).size) (fun j h e => by omega)), .inl (by rw [HR.out]; exact ⟨by omega, rfl⟩)⟩
   have hg0 : Mt.cks (zs.take k) = 0 := by simpa using hg
   have Hg := hide hg0
   clear hg hg0
   go_wp2_with fail
   refine (rget16_rd _ zs hB 6 (by omega) hl w3 (hI.below (hb1.trans (hL3.mono (by omega))))).mono ?_
   rintro e w4 ⟨rfl, hl4'⟩
   have hL4 : Later _ w4 := hL3.trans hl4'
   have z4 := hL4.size
   have hff := wat_bd hB 6
   by_cases h7 : wat zs 6 % 16384 ≠ 0
   ·have t7 : (wat zs 6 % 16384 != 0) = true := by simpa using h7
    have hc5 : chk zs = 7 := by unfold chk; rw [HK.out, Int.toNat_natCast, if_neg (by simp [Hg.out]), if_pos h7]
    have HR : Hid (rde true zs = 7) := by show _ = _; unfold rde; rw [hm0.out, if_neg (by simp), if_neg (by simp [ral]; omega), hc5]; rfl
    clear hc5
    have pk := ((hL4).block w.heap.size (by omega)).trans p1
    have Pk := block_cell pk
    have Fk := block_frozen pk
    go_wp2_with fail
    clear Pk Fk
    generalize hV : World.setCell _ ⟨w.heap.size, 8, none⟩ _ = V
    have hV9 : V = putRow w4 w.heap.size 0 zc := hV.symm
    have hb8 : But (fun b => b = w.heap.size) w4 V := by rw [hV9]; exact putRow_but (E := fun b => b = w.heap.size) (n := w.heap.size) rfl _ _ _ _ (But.refl _ _)
    have p8 := putRow_all zc pk rfl
    rw [← hV9] at p8
    exact rexit _ w.heap.size 7 _ rfl rfl p8 ⟨(hb1.trans ((hL4).mono (by omega))).trans (hb8.below (Nat.le_trans (by omega) (hL4).size) (fun j h e => by omega)), .inl (by rw [HR.out]; exact ⟨by omega, rfl⟩)⟩
   have t7 : (wat zs 6 % 16384 != 0) = false := by simpa using h7
   by_cases h8 : 32768 ≤ wat zs 6
   ·have hc5 : chk zs = 4 := by unfold chk; rw [HK.out, Int.toNat_natCast, if_neg (by simp [Hg.out]), if_neg h7, if_pos h8]
    have HR : Hid (rde true zs = 4) := by show _ = _; unfold rde; rw [hm0.out, if_neg (by simp), if_neg (by simp [ral]; omega), hc5]; rfl
    clear hc5
    have pk := ((hL4).block w.heap.size (by omega)).trans p1
    have Pk := block_cell pk
    have Fk := block_frozen pk
    go_wp2_with fail
    clear Pk Fk
    generalize hV : World.setCell _ ⟨w.heap.size, 8, none⟩ _ = V
    have hV9 : V = putRow w4 w.heap.size 0 zc := hV.symm
    have hb8 : But (fun b => b = w.heap.size) w4 V := by rw [hV9]; exact putRow_but (E := fun b => b = w.heap.size) (n := w.heap.size) rfl _ _ _ _ (But.refl _ _)
    have p8 := putRow_all zc pk rfl
    rw [← hV9] at p8
    exact rexit _ w.heap.size 4 _ rfl rfl p8 ⟨(hb1.trans ((hL4).mono (by omega))).trans (hb8.below (Nat.le_trans (by omega) (hL4).size) (fun j h e => by omega)), .inl (by rw [HR.out]; exact ⟨by omega, rfl⟩)⟩
   have hc0 : Hid (chk zs = 0) := by show _ = _; unfold chk; rw [HK.out, Int.toNat_natCast, if_neg (by simp [Hg.out]), if_neg h7, if_neg h8]
   by_cases h9 : wat zs 2 - (k : Int) < 8
   ·have HR : Hid (rde true zs = 3) := by show _ = _; unfold rde; rw [hm0.out, if_neg (by simp), if_neg (by simp [ral]; omega), hc0.out, if_neg (by simp), HK.out, if_pos ⟨rfl, by simp [ral]; omega⟩]
    have pk := ((hL4).block w.heap.size (by omega)).trans p1
    have Pk := block_cell pk
    have Fk := block_frozen pk
    go_wp2_with fail
    clear Pk Fk
    generalize hV : World.setCell _ ⟨w.heap.size, 8, none⟩ _ = V
    have hV9 : V = putRow w4 w.heap.size 0 zc := hV.symm
    have hb8 : But (fun b => b = w.heap.size) w4 V := by rw [hV9]; exact putRow_but (E := fun b => b = w.heap.size) (n := w.heap.size) rfl _ _ _ _ (But.refl _ _)
    have p8 := putRow_all zc pk rfl
    rw [← hV9] at p8
    exact rexit _ w.heap.size 3 _ rfl rfl p8 ⟨(hb1.trans ((hL4).mono (by omega))).trans (hb8.below (Nat.le_trans (by omega) (hL4).size) (fun j h e => by omega)), .inl (by rw [HR.out]; exact ⟨by omega, rfl⟩)⟩
   have HR : Hid (rde true zs = 0) := by show _ = _; unfold rde; rw [hm0.out, if_neg (by simp), if_neg (by simp [ral]; omega), hc0.out, if_neg (by simp), HK.out, if_neg (by simp [ral]; omega)]
   go_wp2_with fail
   obtain ⟨n, hn⟩ := Int.eq_ofNat_of_zero_le (show 0 ≤ wat zs 2 by omega)
   have hkn : 20 ≤ k ∧ k ≤ n ∧ n ≤ zs.length := by omega
   have HN : Hid (ral true zs = n) := by show _ = _; simp [ral]; omega
   have Hn := hide hn
   rw [hn]
   clear hn
   have d1 := hc 1 (by omega)
   have d8 := hc 8 (by omega)
   have d9 := hc 9 (by omega)
   have hbw4 := hb1.trans (hL4.mono (by omega))
   generalize gz1 : zs[1]?.getD 0 = z1 at *
   generalize gz8 : zs[8]?.getD 0 = z8 at *
   generalize gz9 : zs[9]?.getD 0 = z9 at *
   have G1 := hide gz1
   have G8 := hide gz8
   have G9 := hide gz9
   clear gz1 gz8 gz9
   have i1 : (1 : Int) < zs.length := by omega
   have i8 : (8 : Int) < zs.length := by omega
   have i9 : (9 : Int) < zs.length := by omega
   refine anyR_begin (R := KI w4.heap.size 56 9 (List.toArray [.int .u8 z1, .int .u16 (wat zs 4), .bool (decide (16384 ≤ wat zs 6)), .int .u8 z8, .int .u8 z9, .int .u32 (wat4 zs 12), .int .u32 (wat4 zs 16), .slice none 0 0, .slice none 0 0])) (KI.pre _ _ _ _) (fun w => KI.of (Later.drew w)) 20 rfl (by kernel_rfl) (fun W5 hW5 => ?_)
   have hbel : ∀ w1, KI w4.heap.size 56 9 (List.toArray [.int .u8 z1, .int .u16 (wat zs 4), .bool (decide (16384 ≤ wat zs 6)), .int .u8 z8, .int .u8 z9, .int .u32 (wat4 zs 12), .int .u32 (wat4 zs 16), .slice none 0 0, .slice none 0 0]) W5 w1 → Below w.heap.size w w1 := fun w1 h => hbw4.trans (((hW5.trans h).1.below (Nat.le_refl _) (fun k hk e => by omega)).mono (by omega))
   have hr1 : ∀ w1, KI w4.heap.size 56 9 (List.toArray [.int .u8 z1, .int .u16 (wat zs 4), .bool (decide (16384 ≤ wat zs 6)), .int .u8 z8, .int .u8 z9, .int .u32 (wat4 zs 12), .int .u32 (wat4 zs 16), .slice none 0 0, .slice none 0 0]) W5 w1 → Rd w.heap.size w1 (.slice (some ⟨b, off, none⟩) zs.length cap) zs := fun w1 h => hI.below (hbel w1 h)
   have e1 : ∀ w1, KI w4.heap.size 56 9 (List.toArray [.int .u8 z1, .int .u16 (wat zs 4), .bool (decide (16384 ≤ wat zs 6)), .int .u8 z8, .int .u8 z9, .int .u32 (wat4 zs 12), .int .u32 (wat4 zs 16), .slice none 0 0, .slice none 0 0]) W5 w1 → w1.cell? ⟨b, off + 1, none⟩ = some (.int .u8 z1) := fun w1 h => ((hbel w1 h).cell (p := ⟨b, off + 1, none⟩) hb).trans d1
   have e8 : ∀ w1, KI w4.heap.size 56 9 (List.toArray [.int .u8 z1, .int .u16 (wat zs 4), .bool (decide (16384 ≤ wat zs 6)), .int .u8 z8, .int .u8 z9, .int .u32 (wat4 zs 12), .int .u32 (wat4 zs 16), .slice none 0 0, .slice none 0 0]) W5 w1 → w1.cell? ⟨b, off + 8, none⟩ = some (.int .u8 z8) := fun w1 h => ((hbel w1 h).cell (p := ⟨b, off + 8, none⟩) hb).trans d8
   have e9 : ∀ w1, KI w4.heap.size 56 9 (List.toArray [.int .u8 z1, .int .u16 (wat zs 4), .bool (decide (16384 ≤ wat zs 6)), .int .u8 z8, .int .u8 z9, .int .u32 (wat4 zs 12), .int .u32 (wat4 zs 16), .slice none 0 0, .slice none 0 0]) W5 w1 → w1.cell? ⟨b, off + 9, none⟩ = some (.int .u8 z9) := fun w1 h => ((hbel w1 h).cell (p := ⟨b, off + 9, none⟩) hb).trans d9
   clear d1 d8 d9
   refine rV (KI.pre _ _ _ _) 0 rfl rfl ⟨_, fun v h => by (go_simp; rfl), ?_⟩; simp only [Act.put, sA, sB, sC]
   refine rV (KI.pre _ _ _ _) 1 rfl rfl ⟨_, fun v h => by (go_simp; rfl), ?_⟩; simp only [Act.put, sA, sB, sC]
   refine rV (KI.pre _ _ _ _) 2 rfl rfl ⟨_, fun v h => by (go_simp; rfl), ?_⟩; simp only [Act.put, sA, sB, sC]
   refine rV (KI.pre _ _ _ _) 3 rfl rfl ⟨_, fun v h => by (go_simp; rfl), ?_⟩; simp only [Act.put, sA, sB, sC]
   refine anyR_take (KI.pre _ _ _ _) 4 (.int .u16 (wat zs 4)) rfl (by kernel_rfl) (by kernel_rfl) (by kernel_rfl) (fun _ _ _ h => h) rfl (fun w1 hw1 => goes_call 120 #[.slice (some ⟨b, off, none⟩) zs.length cap, .int .i64 4] (by go_simp) ?_) ?_
   ·exact (rget16_rd _ zs hB 4 (by omega) hl w1 (hr1 w1 hw1)).mono fun e w' ⟨he, hw⟩ => ⟨he, KI.of hw⟩
   simp only [Act.put, sA, sB, sC]
   refine rV (KI.pre _ _ _ _) 5 rfl rfl ⟨_, fun v h => by (go_simp; rfl), ?_⟩; simp only [Act.put, sA, sB, sC]
   refine rV (KI.pre _ _ _ _) 6 rfl rfl ⟨_, fun v h => by (go_simp; rfl), ?_⟩; simp only [Act.put, sA, sB, sC]
   refine rV (KI.pre _ _ _ _) 7 rfl rfl ⟨_, fun v h => by (go_simp; rfl), ?_⟩; simp only [Act.put, sA, sB, sC]
   refine rV (KI.pre _ _ _ _) 8 rfl rfl ⟨_, fun v h => by (go_simp; rfl), ?_⟩; simp only [Act.put, sA, sB, sC]
   refine rV (KI.pre _ _ _ _) 9 rfl rfl ⟨_, fun v h => by (go_simp; rfl), ?_⟩; simp only [Act.put, sA, sB, sC]
   refine rV (KI.pre _ _ _ _) 10 rfl rfl ⟨_, fun v h => by (go_simp; rfl), ?_⟩; simp only [Act.put, sA, sB, sC]
   refine rV (KI.pre _ _ _ _) 11 rfl rfl ⟨_, fun v h => by (go_simp; rfl), ?_⟩; simp only [Act.put, sA, sB, sC]
   refine rV (KI.pre _ _ _ _) 12 rfl rfl ⟨_, fun v h => by (go_simp; rfl), ?_⟩; simp only [Act.put, sA, sB, sC]
   refine rV (KI.pre _ _ _ _) 13 rfl rfl ⟨_, fun v h => by (go_simp; rfl), ?_⟩; simp only [Act.put, sA, sB, sC]
   refine anyR_take (KI.pre _ _ _ _) 14 (.int .u32 (wat4 zs 12)) rfl (by kernel_rfl) (by kernel_rfl) (by kernel_rfl) (fun _ _ _ h => h) rfl (fun w1 hw1 => goes_call 122 #[.slice (some ⟨b, off, none⟩) zs.length cap, .int .i64 12] (by go_simp) ?_) ?_
   ·exact (rget32_rd _ zs hB 12 (by omega) hl w1 (hr1 w1 hw1)).mono fun e w' ⟨he, hw⟩ => ⟨he, KI.of hw⟩
   simp only [Act.put, sA, sB, sC]
   refine rV (KI.pre _ _ _ _) 15 rfl rfl ⟨_, fun v h => by (go_simp; rfl), ?_⟩; simp only [Act.put, sA, sB, sC]
   refine anyR_take (KI.pre _ _ _ _) 16 (.int .u32 (wat4 zs 16)) rfl (by kernel_rfl) (by kernel_rfl) (by kernel_rfl) (fun _ _ _ h => h) rfl (fun w1 hw1 => goes_call 122 #[.slice (some ⟨b, off, none⟩) zs.length cap, .int .i64 16] (by go_simp) ?_) ?_
   ·exact (rget32_rd _ zs hB 16 (by omega) hl w1 (hr1 w1 hw1)).mono fun e w' ⟨he, hw⟩ => ⟨he, KI.of hw⟩
   simp only [Act.put, sA, sB, sC]
   refine rV (KI.pre _ _ _ _) 17 rfl rfl ⟨_, fun v h => by (go_simp; rfl), ?_⟩; simp only [Act.put, sA, sB, sC]
   refine anyR_one 18 rfl (by kernel_rfl) rfl (fun W6 hW6 => ?_)
   have hs6 : w4.heap.size ≤ W6.heap.size := (hW5.trans hW6).1.size
   unfold Oper.wp
   go_simp
   refine ⟨KI.of ((Below.refl _ _).alloc (Nat.le_refl _) _), ?_⟩
   refine anyR_one 19 rfl (by kernel_rfl) rfl (fun W7 hW7 => ?_)
   have hwr : Wr W6.heap.size 9 56 W7 := hW7.2.1 _ ⟨_, heap_alloc_new W6 _, rfl⟩
   have hst := KI.store (n₁ := w4.heap.size) [.int .u8 z1, .int .u16 (wat zs 4), .bool (decide (16384 ≤ wat zs 6)), .int .u8 z8, .int .u8 z9, .int .u32 (wat4 zs 12), .int .u32 (wat4 zs 16), .slice none 0 0, .slice none 0 0] hs6 hwr rfl
   obtain ⟨cur, hcur, hsz⟩ := hwr
   have k7 := block_cell hcur
   have f7 := block_frozen hcur
   have HS := hide hst
   clear hst
   unfold Oper.wp
   go_simp
   generalize hV : World.setCell _ ⟨W6.heap.size, 8, none⟩ _ = V
   have hV9 : V = putRow W7 W6.heap.size 0 [.int .u8 z1, .int .u16 (wat zs 4), .bool (decide (16384 ≤ wat zs 6)), .int .u8 z8, .int .u8 z9, .int .u32 (wat4 zs 12), .int .u32 (wat4 zs 16), .slice none 0 0, .slice none 0 0] := hV.symm
   have hst := HS.out
   rw [← hV9] at hst
   clear hV hV9 HS k7 f7
   refine ⟨hst.1, anyR_done (by kernel_rfl) (fun W8 hW8 => ?_)⟩
   have p8 := hW8.2.2 _ hst.2
   have hwW8 : Below w.heap.size w W8 := hbel W8 (((hW6.trans (KI.of ((Below.refl _ _).alloc (Nat.le_refl _) _))).trans hW7).trans (hst.1.trans hW8))
   have hq8 : w.heap.size < W6.heap.size := by omega
   have pw8 : Wr w.heap.size 9 56 W8 := hW8.2.1 _ (hst.1.2.1 _ (hW7.2.1 _ ((KI.of ((Below.refl W6.heap.size W6).alloc (Nat.le_refl _) _) : KI w4.heap.size 56 9 (List.toArray [.int .u8 z1, .int .u16 (wat zs 4), .bool (decide (16384 ≤ wat zs 6)), .int .u8 z8, .int .u8 z9, .int .u32 (wat4 zs 12), .int .u32 (wat4 zs 16), .slice none 0 0, .slice none 0 0]) W6 _).2.1 _ (hW6.2.1 _ (hW5.2.1 _ ⟨_, (hL4.block w.heap.size (by omega)).trans p1, rfl⟩)))))
   generalize W6.heap.size = pb at *
   clear hbel hr1 e1 e8 e9 hst hW7 hW6 hs6 hcur hsz hW8
   have hs8 := (bl9 p8)
   have P8 := block_cell p8
   go_wp2_with fail
   have hR8 := (((hI.below hwW8).take k (by omega)).cutAt 20 (by omega)).drew 1
   obtain ⟨v9, W9, hrun9, hown9, hgr9⟩ := run_app (P := Tryz.prog) W8.drew 31 31 5 (pb + 1) i0 Tryz.underlying31 hi hz0 hz1 hz2 (.slice none 0 0) [] (World.ownsRow_nil _ _ _ _) w.heap.size _ ((zs.take k).drop 20) hR8 (by simp; omega) hs8
   have hl9 : Later W8 W9 := Later.trans (Later.drew W8) ((Below.refl _ W8.drew).grown hgr9 (Nat.le_refl _) (fun _ e => by cases e))
   have hO9 := Ow.of_row hown9
   rw [List.nil_append] at hO9
   obtain ⟨a9, cap9, rfl, hq9, hm9⟩ := hO9.slice
   clear hown9 hgr9 hR8
   have p9 := (hl9.block pb hs8).trans p8
   have P9 := block_cell p9
   have F9 := block_frozen p9
   have hLo : Hid (((zs.take k).drop 20).length = k - 20) := by show _ = _; simp; omega
   rw [hLo.out] at hrun9 hO9
   have i20 : (20 : Int) ≤ k := by omega
   go_region_law (refine step_run rfl (.tmp 92) (.tmp 95) 31 rfl _ _ rfl rfl _ W9 hrun9 ?_)
   clear hrun9 P8 P9 F9
   generalize (if cap = 20 then some (⟨b, off, none⟩ : Addr) else some ⟨b, off + 20, none⟩) = ad20 at *
   have p10 : (W9.setCell ⟨pb, 7, none⟩ (.slice a9 (k - 20) cap9)).heap[pb]? = some (.cells (List.toArray [.int .u8 z1, .int .u16 (wat zs 4), .bool (decide (16384 ≤ wat zs 6)), .int .u8 z8, .int .u8 z9, .int .u32 (wat4 zs 12), .int .u32 (wat4 zs 16), .slice a9 (k - 20) cap9, .slice none 0 0]) 56 (0, 0)) := heap_set1 p9 7 (.slice a9 (k - 20) cap9)
   have hE9 : But (fun b => b = pb) W9 (W9.setCell ⟨pb, 7, none⟩ (.slice a9 (k - 20) cap9)) := (But.refl (fun b => b = pb) W9).setCell (p := ⟨pb, 7, none⟩) (E := fun b => b = pb) rfl _
   have hO10 := hO9.but hE9 (fun b h e => by omega)
   have hw10 : Below w.heap.size w _ := (hwW8.trans (hl9.mono hwW8.size)).setCell (p := ⟨pb, 7, none⟩) (Nat.le_of_lt hq8) (.slice a9 (k - 20) cap9)
   have pw10 : Wr w.heap.size 9 56 (W9.setCell ⟨pb, 7, none⟩ (.slice a9 (k - 20) cap9)) := by
    obtain ⟨c, h1, h2⟩ := pw8.later hl9
    exact ⟨c, (hE9.block _ (bl9 h1) (by omega)).trans h1, h2⟩
   generalize W9.setCell ⟨pb, 7, none⟩ (.slice a9 (k - 20) cap9) = W10 at *
   clear hO9 p9 hE9 hl9 hwW8 pw8
   have hs10 := (bl9 p10)
   have P10 := block_cell p10
   go_wp2_with fail
   have hR10 := (((hI.below hw10).take n (by omega)).cutAt k (by omega)).drew 1
   obtain ⟨v11, W11, hrun11, hown11, hgr11⟩ := run_app (P := Tryz.prog) W10.drew 31 31 5 (pb + 1) i0 Tryz.underlying31 hi hz0 hz1 hz2 (.slice none 0 0) [] (World.ownsRow_nil _ _ _ _) w.heap.size _ ((zs.take n).drop k) hR10 (by simp; omega) hs10
   have hl11 : Later W10 W11 := Later.trans (Later.drew W10) ((Below.refl _ W10.drew).grown hgr11 (Nat.le_refl _) (fun _ e => by cases e))
   have hO11 := Ow.of_row hown11
   rw [List.nil_append] at hO11
   obtain ⟨a11, cap11, rfl, hq11, hm11⟩ := hO11.slice
   clear hown11 hgr11 hR10
   have p11 := (hl11.block pb hs10).trans p10
   have P11 := block_cell p11
   have F11 := block_frozen p11
   have hLd : Hid (((zs.take n).drop k).length = n - k) := by show _ = _; simp; try omega
   rw [hLd.out] at hrun11 hO11
   have ikn : (k : Int) ≤ n := by omega
   have inc : n ≤ cap := by omega
   have inc2 : (n : Int) ≤ cap := by omega
   go_region_law (refine step_run rfl (.tmp 99) (.tmp 103) 31 rfl _ _ rfl rfl _ W11 hrun11 ?_)
   clear hrun11 P10 P11 F11
   generalize (if cap = k then some (⟨b, off, none⟩ : Addr) else some ⟨b, off + k, none⟩) = adk at *
   have p12 : (W11.setCell ⟨pb, 8, none⟩ (.slice a11 (n - k) cap11)).heap[pb]? = some (.cells (List.toArray [.int .u8 z1, .int .u16 (wat zs 4), .bool (decide (16384 ≤ wat zs 6)), .int .u8 z8, .int .u8 z9, .int .u32 (wat4 zs 12), .int .u32 (wat4 zs 16), .slice a9 (k - 20) cap9, .slice a11 (n - k) cap11]) 56 (0, 0)) := heap_set1 p11 8 (.slice a11 (n - k) cap11)
   have hE11 : But (fun b => b = pb) W11 (W11.setCell ⟨pb, 8, none⟩ (.slice a11 (n - k) cap11)) := (But.refl (fun b => b = pb) W11).setCell (p := ⟨pb, 8, none⟩) (E := fun b => b = pb) rfl _
   have hO12 := hO11.but hE11 (fun b h e => by omega)
   have hO13 := (hO10.below hl11 (Nat.le_refl _)).but hE11 (fun b h e => by omega)
   have hw12 : Below w.heap.size w _ := (hw10.trans (hl11.mono hw10.size)).setCell (p := ⟨pb, 8, none⟩) (Nat.le_of_lt hq8) (.slice a11 (n - k) cap11)
   have pw12 : Wr w.heap.size 9 56 (W11.setCell ⟨pb, 8, none⟩ (.slice a11 (n - k) cap11)) := by
    obtain ⟨c, h1, h2⟩ := pw10.later hl11
    exact ⟨c, (hE11.block _ (bl9 h1) (by omega)).trans h1, h2⟩
   generalize W11.setCell ⟨pb, 8, none⟩ (.slice a11 (n - k) cap11) = W12 at *
   clear hO11 p11 hE11 hl11 hw10 pw10 hO10
   have P12 := block_cell p12
   obtain ⟨cur, hcur, hsz⟩ := pw12
   have C12 := block_cell hcur
   have F12 := block_frozen hcur
   go_wp2_with fail
   generalize hV : World.setCell _ ⟨w.heap.size, 8, none⟩ _ = V
   have hV9 : V = putRow W12 w.heap.size 0 [.int .u8 z1, .int .u16 (wat zs 4), .bool (decide (16384 ≤ wat zs 6)), .int .u8 z8, .int .u8 z9, .int .u32 (wat4 zs 12), .int .u32 (wat4 zs 16), .slice a9 (k - 20) cap9, .slice a11 (n - k) cap11] := hV.symm
   have hb13 : But (fun b => b = w.heap.size) W12 V := by rw [hV9]; exact putRow_but (E := fun b => b = w.heap.size) (n := w.heap.size) rfl _ _ _ _ (But.refl _ _)
   have p13 := putRow_all [.int .u8 z1, .int .u16 (wat zs 4), .bool (decide (16384 ≤ wat zs 6)), .int .u8 z8, .int .u8 z9, .int .u32 (wat4 zs 12), .int .u32 (wat4 zs 16), .slice a9 (k - 20) cap9, .slice a11 (n - k) cap11] hcur (by simpa using hsz)
   rw [← hV9] at p13
   have hd : decide (16384 ≤ wat zs 6 % 32768) = decide (16384 ≤ wat zs 6) := by rw [Int.emod_eq_of_lt (by omega) (by omega)]
   have hpk : pkt zs (.slice a9 (k - 20) cap9) (.slice a11 (n - k) cap11) = .agg (List.toArray [.int .u8 z1, .int .u16 (wat zs 4), .bool (decide (16384 ≤ wat zs 6)), .int .u8 z8, .int .u8 z9, .int .u32 (wat4 zs 12), .int .u32 (wat4 zs 16), .slice a9 (k - 20) cap9, .slice a11 (n - k) cap11]) := by unfold pkt; rw [G1.out, G8.out, G9.out, hd]
   refine bodyPost_ret (v := .tuple #[pkt zs (.slice a9 (k - 20) cap9) (.slice a11 (n - k) cap11), .int .i64 0]) (by rw [hpk]; exact res_rread _ w.heap.size 0 _ _ _ _ _ _ _ _ _ V rfl rfl p13) rfl ⟨hw12.trans (hb13.below hw12.size (fun j h e => by omega)), .inr ⟨HR.out, _, _, rfl, ?_, ?_⟩⟩
   ·rw [HK.out, Int.toNat_natCast]
    exact (hO13.but hb13 (fun b h e => by omega)).mono (by omega)
   ·rw [HK.out, HN.out, Int.toNat_natCast, Int.toNat_natCast]
    exact (hO12.but hb13 (fun b h e => by omega)).mono (by omega)
theorem rparse_any (sv : Value) (zs : List Int) (w : World) (hB : Mt.By zs) (hl : zs.length ≤ 140737488355328) (hI : Rd w.heap.size w sv zs) :
  Calls Tryz.prog 29 #[sv] w fun e w' => Below w.heap.size w w' ∧
   ((rde false zs ≠ 0 ∧ e = .returned (.tuple #[.agg zc.toArray, .int .i64 (rde false zs)])) ∨
    (rde false zs = 0 ∧ ∃ so sd, e = .returned (.tuple #[pkt zs so sd, .int .i64 0]) ∧ Ow w.heap.size w' so ((zs.take (hl4 zs).toNat).drop 20) ∧ Ow w.heap.size w' sd ((zs.take (ral false zs).toNat).drop (hl4 zs).toNat))) := by
 obtain ⟨a, cap, rfl, hl1, hm1⟩ := hI.slice
 have hb1 : Below w.heap.size w (w.alloc (.cells zc.toArray 56)) := (Below.refl _ _).alloc (Nat.le_refl _) _
 have p1 := heap_alloc_new w (.cells zc.toArray 56)
 have H := hide (rread_any false _ zs (w.alloc (.cells zc.toArray 56)) hB hl ((hI.below hb1).mono (by simp)))
 go_enter Tryz.func29, Tryz.ntmps29
 go_wp2_with fail
 refine H.out.mono ?_
 rintro e w2 ⟨hb2, ⟨h, rfl⟩ | ⟨h, so, sd, rfl, hO1, hO2⟩⟩
 ·have p2 := (hb2.block w.heap.size (by simp)).trans p1
  have P2 := block_cell p2
  have F2 := block_frozen p2
  go_wp2_with fail
  generalize hV : World.setCell _ ⟨w.heap.size, 8, none⟩ _ = V
  have hV9 : V = putRow w2 w.heap.size 0 zc := hV.symm
  have hb8 : But (fun b => b = w.heap.size) w2 V := by rw [hV9]; exact putRow_but (E := fun b => b = w.heap.size) (n := w.heap.size) rfl _ _ _ _ (But.refl _ _)
  have p8 := putRow_all zc p2 rfl
  rw [← hV9] at p8
  clear hV hV9 P2 F2 H
  have P8 := block_cell p8
  have hbW := (hb1.trans (hb2.mono (by simp))).trans (hb8.below (by have := hb2.size; simp at this; omega) (fun j h e => by omega))
  exact bodyPost_ret (v := .tuple #[.agg zc.toArray, .int .i64 (rde false zs)]) (by simp [results, Tryz.results29, go_sem, P8]) rfl ⟨hbW, .inl ⟨h, rfl⟩⟩
 ·have p2 := (hb2.block w.heap.size (by simp)).trans p1
  have P2 := block_cell p2
  have F2 := block_frozen p2
  obtain ⟨aso, cso, rfl, _, _⟩ := hO1.slice
  obtain ⟨asd, csd, rfl, _, _⟩ := hO2.slice
  generalize hL1 : ((zs.take (hl4 zs).toNat).drop 20).length = lo at *
  generalize hL2 : ((zs.take (ral false zs).toNat).drop (hl4 zs).toNat).length = ld at *
  have HL1 := hide hL1
  have HL2 := hide hL2
  clear hL1 hL2
  unfold pkt
  go_wp2_with fail
  generalize hV : World.setCell _ ⟨w.heap.size, 8, none⟩ _ = V
  have hV9 : V = putRow w2 w.heap.size 0 [.int .u8 (zs[1]?.getD 0), .int .u16 (wat zs 4), .bool (decide (16384 ≤ wat zs 6 % 32768)), .int .u8 (zs[8]?.getD 0), .int .u8 (zs[9]?.getD 0), .int .u32 (wat4 zs 12), .int .u32 (wat4 zs 16), .slice aso lo cso, .slice asd ld csd] := hV.symm
  have hb8 : But (fun b => b = w.heap.size) w2 V := by rw [hV9]; exact putRow_but (E := fun b => b = w.heap.size) (n := w.heap.size) rfl _ _ _ _ (But.refl _ _)
  have p8 := putRow_all [.int .u8 (zs[1]?.getD 0), .int .u16 (wat zs 4), .bool (decide (16384 ≤ wat zs 6 % 32768)), .int .u8 (zs[8]?.getD 0), .int .u8 (zs[9]?.getD 0), .int .u32 (wat4 zs 12), .int .u32 (wat4 zs 16), .slice aso lo cso, .slice asd ld csd] p2 rfl
  rw [← hV9] at p8
  clear hV hV9 P2 F2 H
  have P8 := block_cell p8
  have hbW := (hb1.trans (hb2.mono (by simp))).trans (hb8.below (by have := hb2.size; simp at this; omega) (fun j h e => by omega))
  exact bodyPost_ret (v := .tuple #[pkt zs (.slice aso lo cso) (.slice asd ld csd), .int .i64 0]) (by simp [results, Tryz.results29, go_sem, P8, pkt]) rfl ⟨hbW, .inr ⟨h, _, _, rfl, (hO1.but hb8 (fun b h e => by simp at h; omega)).mono (by simp), (hO2.but hb8 (fun b h e => by simp at h; omega)).mono (by simp)⟩⟩
end Go.Proofs.YtofknbfbmaefoaaGreatDoor
