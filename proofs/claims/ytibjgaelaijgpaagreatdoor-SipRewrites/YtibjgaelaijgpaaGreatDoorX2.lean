/- Several texts in one. -/
import Derived.Test.YtibjgaelaijgpaaGreatDoorX3
import Derived.OwnWalk
import Derived.Test.YtibjgaelaijgpaaGreatDoorX4
import Derived.Deep.Cut
import Derived.Lib.ConvBytes
import Derived.Deep.DeepCutAuto
/- The document's lines. -/
namespace Go.Proofs.YtibjgaelaijgpaaGreatDoor
open Go.RowKit Go.Shelf
set_option maxRecDepth 100000
set_option linter.unusedVariables false
set_option linter.unusedSimpArgs false

/-- A text's lines as the document has them: each without its end, and whether it has one. -/
def dlF : Nat → ByteArray → List (ByteArray × Bool)
  | 0, s => [(s, false)]
  | n + 1, s => if cutF s crB = false then [(s, false)] else (cutA s crB, true) :: dlF n (cutZ s crB)
def dlB (s : ByteArray) : List (ByteArray × Bool) := dlF s.size s
theorem dlF_fuel : ∀ (n m : Nat) (s : ByteArray), s.size ≤ n → s.size ≤ m → dlF n s = dlF m s
  | 0, 0, s, _, _ => rfl
  | 0, m + 1, s, h, _ => by unfold dlF; rw [if_pos (cut_empty (by omega) (by decide))]
  | n + 1, 0, s, _, h => by unfold dlF; rw [if_pos (cut_empty (by omega) (by decide))]
  | n + 1, m + 1, s, h1, h2 => by
    unfold dlF
    split
    · rfl
    · rename_i hc
      have hf : cutF s crB = true := by simpa using hc
      have h0 : s.size ≠ 0 := fun h => by rw [cut_empty h (by decide)] at hf; cases hf
      have := (cut_sizes s crB).2 h0 (by decide)
      rw [dlF_fuel n m (cutZ s crB) (by omega) (by omega)]
theorem dlB_no {s : ByteArray} (h : cutF s crB = false) : dlB s = [(s, false)] := by
  unfold dlB
  cases s.size with
  | zero => rfl
  | succ n => unfold dlF; rw [if_pos h]
theorem dlB_yes {s : ByteArray} (h : cutF s crB = true) : dlB s = (cutA s crB, true) :: dlB (cutZ s crB) := by
  have h0 : s.size ≠ 0 := fun h0 => by rw [cut_empty h0 (by decide)] at h; cases h
  have hz := (cut_sizes s crB).2 h0 (by decide)
  have e : dlB s = dlF (s.size - 1 + 1) s := by unfold dlB; congr 1; omega
  rw [e]
  show (if cutF s crB = false then _ else _) = _
  rw [if_neg (by rw [h]; simp)]
  rw [dlF_fuel (s.size - 1) (cutZ s crB).size (cutZ s crB) (by omega) (Nat.le_refl _)]
  rfl
theorem dlF_len : ∀ (n : Nat) (s : ByteArray), (dlF n s).length ≤ n + 1
  | 0, s => Nat.le_refl _
  | n + 1, s => by
    unfold dlF
    split
    · simp
    · have := dlF_len n (cutZ s crB); simp only [List.length_cons]; omega
def lvS (l : List (ByteArray × Bool)) : List Value := l.map fun x => .string x.1
def lvE (l : List (ByteArray × Bool)) : List Value := l.map fun x => .bool x.2
theorem info_str14 : (Tryz.prog.info? 9).map (fun i => (i.zero, i.size, i.bytes)) = some (some (.string ⟨#[]⟩), 1, 16) := by kernel_rfl
theorem info_bool14 : (Tryz.prog.info? 4).map (fun i => (i.zero, i.size, i.bytes)) = some (some (.bool false), 1, 1) := by kernel_rfl
/-- One more of a plain kind appended. -/
theorem app1G {W : World} {base : Nat} {e t : TypeId} {i : TypeInfo} {z : Value} {bytes : Nat} (ht : Tryz.prog.underlying t = some (.slice e)) (hi : Tryz.prog.info? e = some i) (hz : i.zero = some z) (h1 : i.size = 1) (h2 : i.bytes = bytes) (hb : bytes ≤ 16) (hzc : z.cells.size = 1) {v : Value} {xs : List Value} (x : Value) (hx : x.oneCell' = true) (ho : W.ownsRow base e 1 v xs.length xs) (hl : xs.length ≤ 1000000) (hbW : base ≤ W.heap.size) (ty : TypeId) :
    ∃ a c W', (Builtin.append_ #[t, t] ty #[v, .slice (some ⟨W.heap.size, 0, none⟩) 1 1]).run Tryz.prog (W.alloc (.cells #[x] e)) = .ok (.slice a (xs.length + 1) c) W' ∧ W'.ownsRow base e 1 (.slice a (xs.length + 1) c) (xs ++ [x]).length (xs ++ [x]) ∧ (W.alloc (.cells #[x] e)).grownBy W' v.ownBlock := by
  have la := later_allocR W (.cells #[x] e)
  have hn := heap_alloc_new W (.cells #[x] e)
  obtain ⟨v', W', hrun, hrow, hg, _⟩ := run_append_own (P := Tryz.prog) (W.alloc (.cells #[x] e)) base t ty e i z 1 bytes ht hi hz h1 h2 hzc (by decide) v xs.length xs (ownsS_ct ho (CTs.of la)) ⟨W.heap.size, 0, none⟩ 1 1 [x] rfl
    (fun j u hj => by
      rw [show (⟨W.heap.size, 0, none⟩ : Addr).add j = ⟨W.heap.size, j, none⟩ from by unfold Addr.add; split <;> simp_all, block_cell hn j]
      simpa using hj)
    (by intro u hu; simp at hu; subst hu; exact hx) (by unfold maxLen; omega) (by have : (xs.length + 1) * bytes ≤ 1000001 * 16 := Nat.mul_le_mul (by omega) hb; omega) (Nat.le_trans hbW la.size)
  obtain ⟨a, c, rfl⟩ := owns_form hrow
  exact ⟨a, c, W', hrun, by simpa using hrow, hg⟩
/-- What such an append leaves. -/
theorem app1_keep {W W' : World} {base : Nat} {e : TypeId} {v x : Value} {xs : List Value} (ho : W.ownsRow base e 1 v xs.length xs) (hg : (W.alloc (.cells #[x] e)).grownBy W' v.ownBlock) (hb : base ≤ W.heap.size) : Below base W W' ∧ ∀ {e' : TypeId} {size : Nat} {v' : Value} {n : Nat} {ys : List Value}, e' ≠ e → W.ownsRow base e' size v' n ys → W'.ownsRow base e' size v' n ys := by
  have la := later_allocR W (.cells #[x] e)
  have ho' := ownsS_ct ho (CTs.of la)
  refine ⟨(la.mono hb).trans ⟨hg.os, hg.tape, hg.output, hg.size, fun i hi => ?_⟩, fun hne h => keep_own ho' hg hne (ownsS_ct h (CTs.of la))⟩
  cases hh : (W.alloc (.cells #[x] e)).heap[i]? with
  | none => have := Array.getElem?_eq_none_iff.1 hh; have := la.size; omega
  | some o => exact keep_row ho' hg hh (.inr hi)

set_option maxRecDepth 100000 in
set_option maxHeartbeats 8000000 in
theorem rlines_any (sb : Value) (zb : List Int) (w : World) (hB : Rd w.heap.size w sb zb) (hy : Mt.By zb) (hz : zb.length ≤ 100000) :
    Calls Tryz.prog 28 #[sb] w fun e w' => Later w w' ∧ ∃ v1 v2, e = .returned (.tuple #[v1, v2]) ∧ w'.ownsRow w.heap.size 9 1 v1 (dlB (strOfNums zb)).length (lvS (dlB (strOfNums zb))) ∧ w'.ownsRow w.heap.size 4 1 v2 (dlB (strOfNums zb)).length (lvE (dlB (strOfNums zb))) := by
  obtain ⟨ba, bcp, rfl, hbc1, hbc2⟩ := hB.slice
  obtain ⟨i1, hi1, hz11, hz12, hz13⟩ := info_partsS info_str14
  obtain ⟨i2, hi2, hz21, hz22, hz23⟩ := info_partsS info_bool14
  have hdl : (dlB (strOfNums zb)).length ≤ 100001 := by have := dlF_len (strOfNums zb).size (strOfNums zb); rw [strOfNums_size] at this; unfold dlB; rw [strOfNums_size]; omega
  have hB0 : Hid (Rd w.heap.size w (.slice ba zb.length bcp) (nmsB (strOfNums zb))) := by
    show Rd _ _ _ _
    rw [nmsB_str zb hy]; exact hB
  have hss : (strOfNums zb).size = zb.length := strOfNums_size zb
  generalize hDL : dlB (strOfNums zb) = dl at *
  have HDL := hide hDL
  clear hDL hB
  go_enter Tryz.func28, Tryz.ntmps28
  go_upto_region 3 with fail
  go_loopw [0, 4, 5] (fun rv ov ev wr => ∃ (t : ByteArray) (pre : List (ByteArray × Bool)), Below w.heap.size w wr ∧ t.size ≤ 100000 ∧ Hid (Rd w.heap.size wr rv (nmsB t)) ∧ Hid (wr.ownsRow w.heap.size 9 1 ov pre.length (lvS pre)) ∧ Hid (wr.ownsRow w.heap.size 4 1 ev pre.length (lvE pre)) ∧ Hid (pre ++ dlB t = dl)) (fun rv _ _ _ => match rv with | .slice _ n _ => n | _ => 0)
  case atStart => exact ⟨strOfNums zb, [], Below.refl _ _, by omega, hB0, hide ⟨rfl, .inl ⟨rfl, rfl⟩⟩, hide ⟨rfl, .inl ⟨rfl, rfl⟩⟩, by (show _ = _); rw [List.nil_append]; exact HDL.out⟩
  case round =>
    obtain ⟨t, pre, hbr, ht, HR, HO, HE, HD⟩ := hrel
    obtain ⟨ra, rc, e, _, _⟩ := HR.out.slice
    subst e
    obtain ⟨oa, oc, rfl⟩ := owns_form HO.out
    obtain ⟨ea, ec, rfl⟩ := owns_form HE.out
    have hpl : pre.length ≤ 100001 := by have := congrArg List.length HD.out; rw [List.length_append] at this; omega
    have HC2 := hide (rcut_any w.heap.size _ (nmsB t) wr hbr.size HR.out (nmsB_by t) (by rw [nmsB_len]; omega))
    rw [str_nms] at HC2
    have HTL := hide (nmsB_len t)
    have hbrs := hbr.size
    have HRR := hide HR.out
    generalize (nmsB t).length = tl at *
    go_wp2_with fail
    refine HC2.out.mono ?_
    rintro e w3 ⟨l3, v, rfl, hq⟩
    have L3 : Below w.heap.size w w3 := Below.trans hbr (l3.mono hbrs)
    have hs3 := L3.size
    have HO3 := hide (ownsS_ct HO.out (CTs.of l3))
    have HE3 := hide (ownsS_ct HE.out (CTs.of l3))
    have hR3' := hide (HRR.out.below (l3.mono hbrs))
    clear HC2 HO HE HR HRR
    have hlS : (lvS pre).length = pre.length := by unfold lvS; simp
    have hlE : (lvE pre).length = pre.length := by unfold lvE; simp
    rcases hq with ⟨hcf, vb, rfl, hR3⟩ | ⟨hcf, rfl⟩
    · have hf := congrArg ByteArray.size (cut_yes hcf)
      rw [ByteArray.size_append, ByteArray.size_append, show crB.size = 2 from rfl] at hf
      have HD2 : Hid ((pre ++ [(cutA t crB, true)]) ++ dlB (cutZ t crB) = dl) := by
        (show _ = _)
        rw [← HD.out, dlB_yes hcf]
        simp
      obtain ⟨za, zc, rfl, _, _⟩ := hR3.slice
      have HZL := hide (nmsB_len (cutZ t crB))
      have HRZ := hide hR3
      have hzs : (cutZ t crB).size < t.size := by omega
      clear hR3 hcf hf HD
      generalize cutA t crB = lt at *
      generalize cutZ t crB = z at *
      generalize (nmsB z).length = zl at *
      obtain ⟨a1, c1, W1, hr1, hO1, hg1⟩ := app1G (t := 67) Tryz.underlying67 hi1 hz11 hz12 hz13 (by decide) rfl (.string lt) rfl (by rw [hlS]; exact HO3.out) (by omega) hs3 67
      obtain ⟨k1, k1o⟩ := app1_keep (by rw [hlS]; exact HO3.out) hg1 hs3
      rw [hlS] at hr1 hO1
      have hE1 := k1o (by decide) HE3.out
      have hs1 : w.heap.size ≤ W1.heap.size := Nat.le_trans hs3 k1.size
      obtain ⟨a2, c2, W2, hr2, hO2, hg2⟩ := app1G (t := 68) Tryz.underlying68 hi2 hz21 hz22 hz23 (by decide) rfl (.bool true) rfl (by rw [hlE]; exact hE1) (by omega) hs1 68
      obtain ⟨k2, k2o⟩ := app1_keep (by rw [hlE]; exact hE1) hg2 hs1
      rw [hlE] at hr2 hO2
      have HO2 := hide (k2o (by decide) hO1)
      have HE2 := hide hO2
      have L5 : Below w.heap.size w W2 := L3.trans (k1.trans k2)
      have HRZ2 := hide (HRZ.out.below (k1.trans k2))
      have HR1 := hide hr1
      have HR2 := hide hr2
      clear hr1 hr2 hO1 hO2 hg1 hg2 k1o k2o k1 k2 hE1 HO3 HE3
      have HOF : Hid (W2.ownsRow w.heap.size 9 1 (.slice a1 (pre.length + 1) c1) (pre ++ [(lt, true)]).length (lvS (pre ++ [(lt, true)]))) := by
        have e1 : lvS (pre ++ [(lt, true)]) = lvS pre ++ [.string lt] := by unfold lvS; simp
        have e2 : (pre ++ [(lt, true)]).length = (lvS pre ++ [Value.string lt]).length := by unfold lvS; simp
        rw [e1, e2]; exact HO2
      have HEF : Hid (W2.ownsRow w.heap.size 4 1 (.slice a2 (pre.length + 1) c2) (pre ++ [(lt, true)]).length (lvE (pre ++ [(lt, true)]))) := by
        have e1 : lvE (pre ++ [(lt, true)]) = lvE pre ++ [.bool true] := by unfold lvE; simp
        have e2 : (pre ++ [(lt, true)]).length = (lvE pre ++ [Value.bool true]).length := by unfold lvE; simp
        rw [e1, e2]; exact HE2
      clear HO2 HE2
      go_upto_region 7 with (at_builtin; refine wpList_appT rfl (.tmp 25) (.tmp 27) 67 67 rfl _ _ rfl rfl _ _ HR1.out ?_)
      go_upto_region 8 with (at_builtin; refine wpList_appT rfl (.tmp 29) (.tmp 30) 68 68 rfl _ _ rfl rfl _ _ HR2.out ?_)
      go_wp2_with fail
      go_roundw
      case rel => exact ⟨z, pre ++ [(lt, true)], L5, by omega, HRZ2, HOF, HEF, HD2⟩
      case measure => (show zl < tl); rw [HZL.out, HTL.out]; exact hzs
    · have HD2 : Hid (pre ++ [(t, false)] = dl) := by
        (show _ = _)
        rw [← HD.out, dlB_no hcf]
      have hcv := conv_rd 23 9 5 Tryz.underlying23 Tryz.underlying5 Tryz.underlying9 hR3'.out
      rw [str_nms] at hcv
      clear hcf HD
      obtain ⟨a1, c1, W1, hr1, hO1, hg1⟩ := app1G (t := 67) Tryz.underlying67 hi1 hz11 hz12 hz13 (by decide) rfl (.string t) rfl (by rw [hlS]; exact HO3.out) (by omega) hs3 67
      obtain ⟨k1, k1o⟩ := app1_keep (by rw [hlS]; exact HO3.out) hg1 hs3
      rw [hlS] at hr1 hO1
      have hE1 := k1o (by decide) HE3.out
      have hs1 : w.heap.size ≤ W1.heap.size := Nat.le_trans hs3 k1.size
      obtain ⟨a2, c2, W2, hr2, hO2, hg2⟩ := app1G (t := 68) Tryz.underlying68 hi2 hz21 hz22 hz23 (by decide) rfl (.bool false) rfl (by rw [hlE]; exact hE1) (by omega) hs1 68
      obtain ⟨k2, k2o⟩ := app1_keep (by rw [hlE]; exact hE1) hg2 hs1
      rw [hlE] at hr2 hO2
      have L5 : Below w.heap.size w W2 := L3.trans (k1.trans k2)
      have HOF : Hid (W2.ownsRow w.heap.size 9 1 (.slice a1 (pre.length + 1) c1) dl.length (lvS dl)) := by
        have e1 : lvS (pre ++ [(t, false)]) = lvS pre ++ [.string t] := by unfold lvS; simp
        have e2 : (pre ++ [(t, false)]).length = (lvS pre ++ [Value.string t]).length := by unfold lvS; simp
        rw [← HD2.out, e1, e2]; exact k2o (by decide) hO1
      have HEF : Hid (W2.ownsRow w.heap.size 4 1 (.slice a2 (pre.length + 1) c2) dl.length (lvE dl)) := by
        have e1 : lvE (pre ++ [(t, false)]) = lvE pre ++ [.bool false] := by unfold lvE; simp
        have e2 : (pre ++ [(t, false)]).length = (lvE pre ++ [Value.bool false]).length := by unfold lvE; simp
        rw [← HD2.out, e1, e2]; exact hO2
      have HR1 := hide hr1
      have HR2 := hide hr2
      clear hr1 hr2 hO1 hO2 hg1 hg2 k1o k2o k1 k2 hE1 HO3 HE3
      go_wp2_with (at_builtin; first | refine wpList_appT rfl (.tmp 17) (.tmp 20) 67 67 rfl _ _ rfl rfl _ _ HR1.out ?_ | refine wpList_appT rfl (.tmp 22) (.tmp 23) 68 68 rfl _ _ rfl rfl _ _ HR2.out ?_)
      exact bodyPost_ret (v := .tuple #[.slice a1 (pre.length + 1) c1, .slice a2 (pre.length + 1) c2]) (by simp [results, Tryz.results28, go_sem]) rfl ⟨L5, _, _, rfl, HOF.out, HEF.out⟩
end Go.Proofs.YtibjgaelaijgpaaGreatDoor

/- The document's numbers, addr, Address, for the laws of package sip. -/
namespace Go.Proofs.YtibjgaelaijgpaaGreatDoor
open Go.RowKit Go.Shelf
set_option maxRecDepth 100000
set_option linter.unusedVariables false
set_option linter.unusedSimpArgs false

/-- A sign stands there. -/
def tkB (zs : List Int) (p : Nat) (mk : ByteArray) : Bool := decide (p < zs.length) && decide (zs[p]?.getD 0 = bAt mk 0)
theorem tk_byte (zs : List Int) (hz : Mt.By zs) (p : Nat) (c : UInt8) (hc : c.toNat < 65) : tkB zs p ⟨#[c]⟩ = (decide (p < zs.length) && decide (zs[p]?.getD 0 = (c.toNat : Int))) := rfl
def nxP (zs : List Int) (mk : ByteArray) (i p : Nat) : Option Nat := if i = 0 then some p else if tkB zs p mk = true then some (p + mk.size) else none
/-- So many numbers from a place on, and where they end. -/
def rowF (zs : List Int) (mk : ByteArray) : Nat → Nat → Nat → Option (List Int × Nat)
  | 0, _, p => some ([], p)
  | k + 1, i, p => (nxP zs mk i p).bind fun q => (numV (dgS zs q) 255).bind fun v => (rowF zs mk k (i + 1) (dgZ zs q)).map fun x => (v :: x.1, x.2)
theorem rowF_len (zs : List Int) (mk : ByteArray) : ∀ k i p x, rowF zs mk k i p = some x → x.1.length = k
  | 0, i, p, x, h => by
    have : x = ([], p) := by simpa [rowF] using h.symm
    rw [this]; rfl
  | k + 1, i, p, x, h => by
    unfold rowF at h
    obtain ⟨q, _, h⟩ := Option.bind_eq_some_iff.1 h
    obtain ⟨v, _, h⟩ := Option.bind_eq_some_iff.1 h
    obtain ⟨y, hy, rfl⟩ := Option.map_eq_some_iff.1 h
    have := rowF_len zs mk k (i + 1) _ y hy
    simp [this]
theorem numV_by {s : ByteArray} {v : Int} (h : numV s 255 = some v) : 0 ≤ v ∧ v ≤ 255 := by
  have := numV_rng s 255 (by omega)
  rw [h] at this
  exact this
theorem rowF_by (zs : List Int) (mk : ByteArray) : ∀ k i p x, rowF zs mk k i p = some x → Mt.By x.1
  | 0, i, p, x, h => by
    have : x = ([], p) := by simpa [rowF] using h.symm
    rw [this]; exact Mt.By.nil
  | k + 1, i, p, x, h => by
    unfold rowF at h
    obtain ⟨q, _, h⟩ := Option.bind_eq_some_iff.1 h
    obtain ⟨v, hv, h⟩ := Option.bind_eq_some_iff.1 h
    obtain ⟨y, hy, rfl⟩ := Option.map_eq_some_iff.1 h
    have ih := rowF_by zs mk k (i + 1) _ y hy
    intro z hz
    rcases List.mem_cons.1 hz with rfl | hz
    · exact numV_by hv
    · exact ih z hz
theorem info_intF : (Tryz.prog.info? 3).map (fun i => (i.zero, i.size, i.bytes)) = some (some (.int .i64 0), 1, 8) := by kernel_rfl
theorem new_int (W : World) (xs : List Value) : ∀ j u, xs[j]? = some u → (W.alloc (.cells xs.toArray 3)).cell? ((⟨W.heap.size, 0, none⟩ : Addr).add j) = some u := fun j u hj => by
  rw [show (⟨W.heap.size, 0, none⟩ : Addr).add j = ⟨W.heap.size, j, none⟩ from by unfold Addr.add; split <;> simp_all, block_cell (heap_alloc_new W _) j]
  simpa using hj
/-- Ints as cells. -/
def intsV (l : List Int) : List Value := l.map (Value.int .i64)
theorem intsV_snoc (l : List Int) (x : Int) : intsV (l ++ [x]) = intsV l ++ [.int .i64 x] := by unfold intsV; simp

theorem wpList_appI {ops : Array Oper} {rest : List Oper} {o : Oper} {a : Act} {Q : Exit → Act → World → Prop} {W : World} (hgd : o.guard = none) (s y : Operand)
    (ho : o.op = .call { callee := .builtin .append, args := #[s, y], argTypes := #[89, 89] }) (base : Nat) (v : Value) (M : List Int) (x : Int)
    (hs : a.eval s = v) (hy : a.eval y = .slice (some ⟨W.heap.size, 0, none⟩) 1 1) (hown : W.ownsRow base 3 1 v M.length (intsV M)) (hb : base ≤ W.heap.size) (hM : M.length ≤ 100000)
    (h : ∀ g cp W2, W2.ownsRow base 3 1 (.slice (some ⟨g, 0, none⟩) (M.length + 1) cp) (M ++ [x]).length (intsV (M ++ [x])) → Below base W W2 → wpList Tryz.prog ops Q rest (a.put o.dst (.slice (some ⟨g, 0, none⟩) (M.length + 1) cp)) W2) :
    wpList Tryz.prog ops Q (o :: rest) a (W.alloc (.cells #[.int .i64 x] 3)) := by
  obtain ⟨i0, hi0, hz0, hz1, hz2⟩ := info_partsS info_intF
  have la : Later W (W.alloc (.cells #[.int .i64 x] 3)) := (Below.refl _ _).alloc (Nat.le_refl _) _
  have hownA := ownsS_later hown la
  refine wpList_append_own _ hgd s y 89 ho base 3 i0 (.int .i64 0) 1 8 Tryz.underlying89 hi0 hz0 hz1 hz2 rfl (by decide) v M.length (intsV M) hs hownA ⟨W.heap.size, 0, none⟩ 1 1 [.int .i64 x] hy rfl (new_int W [.int .i64 x]) (by intro u hu; simp at hu; subst hu; rfl) (by unfold maxLen; omega) (by omega) (by have := la.size; omega) ?_
  intro v2 W2 hrow hg _
  obtain ⟨g2, cp2, rfl⟩ := ownsS_succ hrow
  refine h g2 cp2 W2 ?_ ?_
  · rw [intsV_snoc, List.length_append, List.length_singleton]
    exact hrow
  · refine (la.mono hb).trans ⟨hg.os, hg.tape, hg.output, hg.size, fun i hi => hg.block i (by have := la.size; omega) (fun e => ?_)⟩
    have := (hown.lt i e.symm).1
    omega

/-- What the document's numbers answer. -/
def NbQ (o : Option (List Int × Nat)) (w w' : World) (e : Ending) : Prop := Later w w' ∧ ((o = none ∧ ∃ q : Int, e = .returned (.tuple #[.slice none 0 0, .int .i64 q, .bool false])) ∨ ∃ x q v, o = some (x, q) ∧ e = .returned (.tuple #[v, .int .i64 (q : Int), .bool true]) ∧ w'.ownsRow w.heap.size 3 1 v x.length (intsV x))
/-- How far it has come: so many numbers, and where. -/
def NbI (zs : List Int) (c : UInt8) (many p0 i p : Nat) (xs : List Int) : Prop := rowF zs ⟨#[c]⟩ many 0 p0 = (rowF zs ⟨#[c]⟩ (many - i) i p).map (fun y => (xs ++ y.1, y.2)) ∧ xs.length = i ∧ p ≤ zs.length
theorem NbI.end {zs : List Int} {c : UInt8} {many p0 p : Nat} {xs : List Int} (h : NbI zs c many p0 many p xs) : rowF zs ⟨#[c]⟩ many 0 p0 = some (xs, p) := by
  obtain ⟨h1, h2, h3⟩ := h
  rw [h1, Nat.sub_self]
  simp [rowF]
theorem NbI.mark {zs : List Int} {c : UInt8} {many p0 i p : Nat} {xs : List Int} (h : NbI zs c many p0 i p xs) (hi : i < many) (h0 : i ≠ 0) (ht : tkB zs p ⟨#[c]⟩ = false) : rowF zs ⟨#[c]⟩ many 0 p0 = none := by
  rw [h.1, show many - i = (many - (i + 1)) + 1 by omega]
  show Option.map _ ((nxP _ _ _ _).bind _) = none
  unfold nxP
  rw [if_neg h0, if_neg (by rw [ht]; simp)]
  rfl
theorem NbI.num {zs : List Int} {c : UInt8} {many p0 i p q : Nat} {xs : List Int} (h : NbI zs c many p0 i p xs) (hi : i < many) (hq : nxP zs ⟨#[c]⟩ i p = some q) (hn : numV (dgS zs q) 255 = none) : rowF zs ⟨#[c]⟩ many 0 p0 = none := by
  rw [h.1, show many - i = (many - (i + 1)) + 1 by omega]
  show Option.map _ ((nxP _ _ _ _).bind _) = none
  rw [hq, Option.bind_some, hn]
  rfl
theorem NbI.next {zs : List Int} {c : UInt8} {many p0 i p q : Nat} {xs : List Int} {v : Int} (h : NbI zs c many p0 i p xs) (hi : i < many) (hq : nxP zs ⟨#[c]⟩ i p = some q) (hql : q ≤ zs.length) (hn : numV (dgS zs q) 255 = some v) : NbI zs c many p0 (i + 1) (dgZ zs q) (xs ++ [v]) := by
  refine ⟨?_, by rw [List.length_append, h.2.1]; rfl, (dgZ_le hql).2⟩
  rw [h.1, show many - i = (many - (i + 1)) + 1 by omega]
  show Option.map _ ((nxP _ _ _ _).bind _) = _
  rw [hq, Option.bind_some, hn, Option.bind_some, Option.map_map]
  congr 1
  funext y
  simp

set_option maxHeartbeats 8000000 in
theorem rnumbers_any (bb off cp : Nat) (zs : List Int) (hz : Mt.By zs) (p0 many : Nat) (c : UInt8) (hc : c.toNat < 65) (w : World) (hI : Rd w.heap.size w (.slice (some ⟨bb, off, none⟩) zs.length cp) zs) (hl : zs.length ≤ 1000000) (hp0 : p0 ≤ zs.length) (hm : many ≤ 100) :
    Calls Tryz.prog 45 #[.slice (some ⟨bb, off, none⟩) zs.length cp, .int .i64 (p0 : Int), .int .i64 (many : Int), .int .u8 (c.toNat : Int)] w fun e w' => NbQ (rowF zs ⟨#[c]⟩ many 0 p0) w w' e := by
  have HI := hide hI
  have HZ := hide hz
  have HTK := hide (fun p => tk_byte zs hz p c hc)
  have hcb : (c.toNat : Int) ≤ 64 := by omega
  have hcn : (0 : Int) ≤ (c.toNat : Int) := by omega
  generalize hcv : (c.toNat : Int) = cv at *
  clear hcv
  have hml : (many : Int) ≤ 100 := by omega
  go_enter Tryz.func45, Tryz.ntmps45
  go_wp2_with fail
  go_loopw [1, 11, 12] (fun v1 v11 v12 wr => ∃ (i p : Nat) (xs : List Int), i ≤ many ∧ v1 = .int .i64 (p : Int) ∧ v12 = .int .i64 (i : Int) ∧ wr.ownsRow w.heap.size 3 1 v11 xs.length (intsV xs) ∧ NbI zs c many p0 i p xs ∧ Later w wr) (fun _ _ v12 _ => many - (intOf v12).toNat)
  case atStart => exact ⟨0, p0, [], by omega, rfl, rfl, ⟨rfl, .inl ⟨rfl, rfl⟩⟩, ⟨by simp, rfl, hp0⟩, Later.refl _⟩
  case round =>
    obtain ⟨i, p, xs, hi, rfl, rfl, hown, hN, l1⟩ := hrel
    have hp : p ≤ zs.length := hN.2.2
    have HO := hide hown
    have HN := hide hN
    clear hown hN
    by_cases hlt : i < many
    · have hlt' : (i : Int) < many := by omega
      by_cases h0 : i = 0
      · subst h0
        have hq : nxP zs ⟨#[c]⟩ 0 p = some p := by unfold nxP; rw [if_pos rfl]
        have hql : p ≤ zs.length := hp
        have HNU := hide (rnumber_any bb off cp wr.heap.size zs HZ.out p 255 wr (HI.out.later l1) hl hql (by omega))
        rw [numD_is HZ.out hql (by omega)] at HNU
        cases hv : numV (dgS zs (p)) 255 with
        | none =>
          rw [hv] at HNU
          have HR := hide (HN.out.num hlt hq hv)
          clear hv
          simp only [Option.map_none, Option.getD_none, Option.isSome_none] at HNU
          go_wp2_with fail
          refine HNU.out.mono ?_
          rintro e w2 ⟨rfl, rfl⟩
          go_wp2_with fail
          exact bodyPost_ret (v := .tuple #[.slice none 0 0, .int .i64 (((p : Nat) : Int)), .bool false]) (by simp [results, Tryz.results45, go_sem]) rfl ⟨l1, .inl ⟨HR.out, _, rfl⟩⟩
        | some v =>
          rw [hv] at HNU
          have HX := hide (HN.out.next hlt hq hql hv)
          have HZL := (dgZ_le hql).2
          clear hv
          simp only [Option.map_some, Option.getD_some, Option.isSome_some] at HNU
          generalize dgZ zs (p) = z at *
          have hxl : xs.length ≤ 100000 := by rw [HN.out.2.1]; omega
          have hws : w.heap.size ≤ wr.heap.size := l1.size
          go_wp2_with fail
          refine HNU.out.mono ?_
          rintro e w2 ⟨rfl, rfl⟩
          go_wp2_with (at_builtin; refine wpList_appI rfl (.tmp 48) (.tmp 50) rfl w.heap.size _ xs v rfl rfl HO.out hws hxl ?_; intro g cp3 w3 hown3 b3; refine Hid.out ?_)
          have HO3 := hide hown3
          clear hown3
          have l3 : Later w w3 := Below.trans l1 b3
          show wpList _ _ _ _ _ _
          go_wp2_with fail
          go_roundw
          case rel => exact ⟨0 + 1, z, xs ++ [v], hlt, rfl, by go_num, by rw [List.length_append] at *; exact HO3.out, HX.out, l3⟩
          case measure => simp [intOf]; omega
      · have hi0 : (0 : Int) < (i : Int) := by omega
        have htk := HTK.out p
        by_cases hpl : p < zs.length
        · have hpl' : ¬ (zs.length : Int) ≤ (p : Int) := by omega
          have hpl2 : (p : Int) < (zs.length : Int) := by omega
          have hck := Rd.cellAt (HI.out.later l1) p hpl
          have hzb := Mt.By.at HZ.out p
          by_cases hcc : zs[p]?.getD 0 = cv
          · have htr : tkB zs p ⟨#[c]⟩ = true := by rw [htk, decide_eq_true hpl, decide_eq_true hcc]; rfl
            have hq : nxP zs ⟨#[c]⟩ i p = some (p + 1) := by unfold nxP; rw [if_neg h0, if_pos htr]; rfl
            have hql : p + 1 ≤ zs.length := hpl
            rw [hcc] at hck
            have hne : (cv != cv) = false := by simp
            clear htk htr hcc hzb
            have HNU := hide (rnumber_any bb off cp wr.heap.size zs HZ.out (p + 1) 255 wr (HI.out.later l1) hl hql (by omega))
            rw [numD_is HZ.out hql (by omega)] at HNU
            cases hv : numV (dgS zs (p + 1)) 255 with
            | none =>
              rw [hv] at HNU
              have HR := hide (HN.out.num hlt hq hv)
              clear hv
              simp only [Option.map_none, Option.getD_none, Option.isSome_none] at HNU
              go_wp2_with fail
              refine HNU.out.mono ?_
              rintro e w2 ⟨rfl, rfl⟩
              go_wp2_with fail
              exact bodyPost_ret (v := .tuple #[.slice none 0 0, .int .i64 (((p + 1 : Nat) : Int)), .bool false]) (by simp [results, Tryz.results45, go_sem]) rfl ⟨l1, .inl ⟨HR.out, _, rfl⟩⟩
            | some v =>
              rw [hv] at HNU
              have HX := hide (HN.out.next hlt hq hql hv)
              have HZL := (dgZ_le hql).2
              clear hv
              simp only [Option.map_some, Option.getD_some, Option.isSome_some] at HNU
              generalize dgZ zs (p + 1) = z at *
              have hxl : xs.length ≤ 100000 := by rw [HN.out.2.1]; omega
              have hws : w.heap.size ≤ wr.heap.size := l1.size
              go_wp2_with fail
              refine HNU.out.mono ?_
              rintro e w2 ⟨rfl, rfl⟩
              go_wp2_with (at_builtin; refine wpList_appI rfl (.tmp 48) (.tmp 50) rfl w.heap.size _ xs v rfl rfl HO.out hws hxl ?_; intro g cp3 w3 hown3 b3; refine Hid.out ?_)
              have HO3 := hide hown3
              clear hown3
              have l3 : Later w w3 := Below.trans l1 b3
              show wpList _ _ _ _ _ _
              go_wp2_with fail
              go_roundw
              case rel => exact ⟨i + 1, z, xs ++ [v], hlt, rfl, by go_num, by rw [List.length_append] at *; exact HO3.out, HX.out, l3⟩
              case measure => simp [intOf]; omega
          · have htr : tkB zs p ⟨#[c]⟩ = false := by rw [htk, decide_eq_false hcc]; simp
            have HR := hide (HN.out.mark hlt h0 htr)
            generalize zs[p]?.getD 0 = z at *
            have hne : (z != cv) = true := by simpa using hcc
            clear htk htr hcc
            go_wp2_with fail
            exact bodyPost_ret (v := .tuple #[.slice none 0 0, .int .i64 (p : Int), .bool false]) (by simp [results, Tryz.results45, go_sem]) rfl ⟨l1, .inl ⟨HR.out, _, rfl⟩⟩
        · have hpl' : (zs.length : Int) ≤ (p : Int) := by omega
          have htr : tkB zs p ⟨#[c]⟩ = false := by rw [htk]; simp [hpl]
          have HR := hide (HN.out.mark hlt h0 htr)
          clear htk htr
          go_wp2_with fail
          exact bodyPost_ret (v := .tuple #[.slice none 0 0, .int .i64 (p : Int), .bool false]) (by simp [results, Tryz.results45, go_sem]) rfl ⟨l1, .inl ⟨HR.out, _, rfl⟩⟩
    · obtain rfl : i = many := by omega
      have HE := hide HN.out.end
      go_wp2_with fail
      exact bodyPost_ret (v := .tuple #[u11, .int .i64 (p : Int), .bool true]) (by simp [results, Tryz.results45, go_sem]) rfl ⟨l1, .inr ⟨xs, p, u11, HE.out, rfl, HO.out⟩⟩
/-- Ints that are the call's own, as they are read. -/
theorem ints_cell {w : World} {base : Nat} {v : Value} {x : List Int} (h : w.ownsRow base 3 1 v x.length (intsV x)) (hx : 0 < x.length) : ∃ g cp, v = .slice (some ⟨g, 0, none⟩) x.length cp ∧ x.length ≤ cp ∧ cp ≤ maxLen ∧ g < w.heap.size ∧ ∀ j, j < x.length → w.cell? ⟨g, j, none⟩ = some (.int .i64 (x[j]?.getD 0)) := by
  obtain ⟨_, ⟨_, h⟩ | ⟨g, cap, cur, hv, _, hh, h1, h2, h3, h4⟩⟩ := h
  · omega
  refine ⟨g, cap, hv, h1, h2, (Array.getElem?_eq_some_iff.1 hh).1, fun j hj => ?_⟩
  rw [block_cell hh, ← Array.getElem?_toList]
  have h5 := congrArg (·[j]?) h4
  simp only [Nat.mul_one] at h5
  rw [List.getElem?_take, if_pos hj] at h5
  rw [h5]
  unfold intsV
  rw [List.getElem?_map, List.getElem?_eq_getElem hj]
  rfl

theorem wrapu32 (x : Int) (h : 0 ≤ x ∧ x ≤ 4294967295) : IntKind.u32.wrap x = x := by
  simp [IntKind.wrap, IntKind.bits, IntKind.signed]
  omega
theorem or_joinK (k : Nat) (x y : Int) (hx : 0 ≤ x ∧ x ≤ 4294967295) (hy : 0 ≤ y ∧ y ≤ 4294967295) (h1 : x.toNat % 2 ^ k = 0) (h2 : y.toNat < 2 ^ k) : bits .or .u32 x y = x + y := by
  rw [u32_or _ _ (by omega) (by omega) (by omega) (by omega)]
  have := nat_join k x.toNat y.toNat h1 h2
  omega
theorem addr_or (x0 x1 x2 x3 : Int) (b0 : 0 ≤ x0 ∧ x0 ≤ 255) (b1 : 0 ≤ x1 ∧ x1 ≤ 255) (b2 : 0 ≤ x2 ∧ x2 ≤ 255) (b3 : 0 ≤ x3 ∧ x3 ≤ 255) :
    bits BinOp.or IntKind.u32 (bits BinOp.or IntKind.u32 (bits BinOp.or IntKind.u32 (IntKind.u32.wrap (IntKind.u32.wrap x0 * 16777216)) (IntKind.u32.wrap (IntKind.u32.wrap x1 * 65536))) (IntKind.u32.wrap (IntKind.u32.wrap x2 * 256))) (IntKind.u32.wrap x3) = (x0 * 256 + x1) * 65536 + (x2 * 256 + x3) := by
  rw [wrapu32 x0 (by omega), wrapu32 x1 (by omega), wrapu32 x2 (by omega), wrapu32 x3 (by omega), wrapu32 (x0 * 16777216) (by omega), wrapu32 (x1 * 65536) (by omega), wrapu32 (x2 * 256) (by omega)]
  rw [or_joinK 24 (x0 * 16777216) (x1 * 65536) (by omega) (by omega) (by omega) (by omega), or_joinK 16 _ (x2 * 256) (by omega) (by omega) (by omega) (by omega), or_joinK 8 _ x3 (by omega) (by omega) (by omega) (by omega)]
  omega

set_option maxHeartbeats 4000000 in
theorem raddr_any (v : Value) (x : List Int) (hx : Mt.By x) (h4 : 4 ≤ x.length) (base : Nat) (w : World) (hO : w.ownsRow base 3 1 v x.length (intsV x)) :
    Calls Tryz.prog 46 #[v] w fun e w' => e = .returned (.int .u32 (wat4 x 0)) ∧ Later w w' := by
  obtain ⟨g, cp, rfl, hl1, hl2, hg, hcell⟩ := ints_cell hO (by omega)
  have c0 := hcell 0 (by omega)
  have c1 := hcell 1 (by omega)
  have c2 := hcell 2 (by omega)
  have c3 := hcell 3 (by omega)
  have b0 := Mt.By.at hx 0
  have b1 := Mt.By.at hx 1
  have b2 := Mt.By.at hx 2
  have b3 := Mt.By.at hx 3
  have HW : Hid (wat4 x 0 = (x[0]?.getD 0 * 256 + x[1]?.getD 0) * 65536 + (x[2]?.getD 0 * 256 + x[3]?.getD 0)) := rfl
  generalize x[0]?.getD 0 = x0 at *
  generalize x[1]?.getD 0 = x1 at *
  generalize x[2]?.getD 0 = x2 at *
  generalize x[3]?.getD 0 = x3 at *
  generalize hxl : x.length = xl at *
  have g1 : (4 : Int) ≤ (xl : Int) := by omega
  have i0 : (0 : Int) < (xl : Int) := by omega
  have n0 : 0 < xl := by omega
  have i1 : (1 : Int) < (xl : Int) := by omega
  have i2 : (2 : Int) < (xl : Int) := by omega
  have i3 : (3 : Int) < (xl : Int) := by omega
  clear hcell hO hxl
  go_enter Tryz.func46, Tryz.ntmps46
  go_upto_region 1 with fail
  refine anyR_begin (R := Later) Later.pre Later.drew 23 rfl (by kernel_rfl) (fun V0 hV0 => ?_)
  have d0 : ∀ u, Later V0 u → u.cell? ⟨g, 0, none⟩ = some (.int .i64 x0) := fun u hu => (hV0.trans hu).cell c0
  have d1 : ∀ u, Later V0 u → u.cell? ⟨g, 1, none⟩ = some (.int .i64 x1) := fun u hu => (hV0.trans hu).cell c1
  have d2 : ∀ u, Later V0 u → u.cell? ⟨g, 2, none⟩ = some (.int .i64 x2) := fun u hu => (hV0.trans hu).cell c2
  have d3 : ∀ u, Later V0 u → u.cell? ⟨g, 3, none⟩ = some (.int .i64 x3) := fun u hu => (hV0.trans hu).cell c3
  clear c0 c1 c2 c3
  refine anyR_val Later.pre 0 rfl (by kernel_rfl) (by kernel_rfl) (by kernel_rfl) (fun _ _ _ _ h => h) rfl ?_; apply Exists.intro; refine ⟨fun v1 hv1 => ?_, ?_⟩; (· (go_simp; rfl)); simp only [Act.put, List.setIfInBounds_toArray, List.set_cons_zero, List.set_cons_succ]
  refine anyR_val Later.pre 1 rfl (by kernel_rfl) (by kernel_rfl) (by kernel_rfl) (fun _ _ _ _ h => h) rfl ?_; apply Exists.intro; refine ⟨fun v1 hv1 => ?_, ?_⟩; (· (go_simp; rfl)); simp only [Act.put, List.setIfInBounds_toArray, List.set_cons_zero, List.set_cons_succ]
  refine anyR_val Later.pre 2 rfl (by kernel_rfl) (by kernel_rfl) (by kernel_rfl) (fun _ _ _ _ h => h) rfl ?_; apply Exists.intro; refine ⟨fun v1 hv1 => ?_, ?_⟩; (· (go_simp; rfl)); simp only [Act.put, List.setIfInBounds_toArray, List.set_cons_zero, List.set_cons_succ]
  refine anyR_val Later.pre 3 rfl (by kernel_rfl) (by kernel_rfl) (by kernel_rfl) (fun _ _ _ _ h => h) rfl ?_; apply Exists.intro; refine ⟨fun v1 hv1 => ?_, ?_⟩; (· (go_simp; rfl)); simp only [Act.put, List.setIfInBounds_toArray, List.set_cons_zero, List.set_cons_succ]
  refine anyR_val Later.pre 4 rfl (by kernel_rfl) (by kernel_rfl) (by kernel_rfl) (fun _ _ _ _ h => h) rfl ?_; apply Exists.intro; refine ⟨fun v1 hv1 => ?_, ?_⟩; (· (go_simp; rfl)); simp only [Act.put, List.setIfInBounds_toArray, List.set_cons_zero, List.set_cons_succ]
  refine anyR_val Later.pre 5 rfl (by kernel_rfl) (by kernel_rfl) (by kernel_rfl) (fun _ _ _ _ h => h) rfl ?_; apply Exists.intro; refine ⟨fun v1 hv1 => ?_, ?_⟩; (· (go_simp; rfl)); simp only [Act.put, List.setIfInBounds_toArray, List.set_cons_zero, List.set_cons_succ]
  refine anyR_val Later.pre 6 rfl (by kernel_rfl) (by kernel_rfl) (by kernel_rfl) (fun _ _ _ _ h => h) rfl ?_; apply Exists.intro; refine ⟨fun v1 hv1 => ?_, ?_⟩; (· (go_simp; rfl)); simp only [Act.put, List.setIfInBounds_toArray, List.set_cons_zero, List.set_cons_succ]
  refine anyR_val Later.pre 7 rfl (by kernel_rfl) (by kernel_rfl) (by kernel_rfl) (fun _ _ _ _ h => h) rfl ?_; apply Exists.intro; refine ⟨fun v1 hv1 => ?_, ?_⟩; (· (go_simp; rfl)); simp only [Act.put, List.setIfInBounds_toArray, List.set_cons_zero, List.set_cons_succ]
  refine anyR_val Later.pre 8 rfl (by kernel_rfl) (by kernel_rfl) (by kernel_rfl) (fun _ _ _ _ h => h) rfl ?_; apply Exists.intro; refine ⟨fun v1 hv1 => ?_, ?_⟩; (· (go_simp; rfl)); simp only [Act.put, List.setIfInBounds_toArray, List.set_cons_zero, List.set_cons_succ]
  refine anyR_val Later.pre 9 rfl (by kernel_rfl) (by kernel_rfl) (by kernel_rfl) (fun _ _ _ _ h => h) rfl ?_; apply Exists.intro; refine ⟨fun v1 hv1 => ?_, ?_⟩; (· (go_simp; rfl)); simp only [Act.put, List.setIfInBounds_toArray, List.set_cons_zero, List.set_cons_succ]
  refine anyR_val Later.pre 10 rfl (by kernel_rfl) (by kernel_rfl) (by kernel_rfl) (fun _ _ _ _ h => h) rfl ?_; apply Exists.intro; refine ⟨fun v1 hv1 => ?_, ?_⟩; (· (go_simp; rfl)); simp only [Act.put, List.setIfInBounds_toArray, List.set_cons_zero, List.set_cons_succ]
  refine anyR_val Later.pre 11 rfl (by kernel_rfl) (by kernel_rfl) (by kernel_rfl) (fun _ _ _ _ h => h) rfl ?_; apply Exists.intro; refine ⟨fun v1 hv1 => ?_, ?_⟩; (· (go_simp; rfl)); simp only [Act.put, List.setIfInBounds_toArray, List.set_cons_zero, List.set_cons_succ]
  refine anyR_val Later.pre 12 rfl (by kernel_rfl) (by kernel_rfl) (by kernel_rfl) (fun _ _ _ _ h => h) rfl ?_; apply Exists.intro; refine ⟨fun v1 hv1 => ?_, ?_⟩; (· (go_simp; rfl)); simp only [Act.put, List.setIfInBounds_toArray, List.set_cons_zero, List.set_cons_succ]
  refine anyR_val Later.pre 13 rfl (by kernel_rfl) (by kernel_rfl) (by kernel_rfl) (fun _ _ _ _ h => h) rfl ?_; apply Exists.intro; refine ⟨fun v1 hv1 => ?_, ?_⟩; (· (go_simp; rfl)); simp only [Act.put, List.setIfInBounds_toArray, List.set_cons_zero, List.set_cons_succ]
  refine anyR_val Later.pre 14 rfl (by kernel_rfl) (by kernel_rfl) (by kernel_rfl) (fun _ _ _ _ h => h) rfl ?_; apply Exists.intro; refine ⟨fun v1 hv1 => ?_, ?_⟩; (· (go_simp; rfl)); simp only [Act.put, List.setIfInBounds_toArray, List.set_cons_zero, List.set_cons_succ]
  refine anyR_val Later.pre 15 rfl (by kernel_rfl) (by kernel_rfl) (by kernel_rfl) (fun _ _ _ _ h => h) rfl ?_; apply Exists.intro; refine ⟨fun v1 hv1 => ?_, ?_⟩; (· (go_simp; rfl)); simp only [Act.put, List.setIfInBounds_toArray, List.set_cons_zero, List.set_cons_succ]
  refine anyR_val Later.pre 16 rfl (by kernel_rfl) (by kernel_rfl) (by kernel_rfl) (fun _ _ _ _ h => h) rfl ?_; apply Exists.intro; refine ⟨fun v1 hv1 => ?_, ?_⟩; (· (go_simp; rfl)); simp only [Act.put, List.setIfInBounds_toArray, List.set_cons_zero, List.set_cons_succ]
  refine anyR_val Later.pre 17 rfl (by kernel_rfl) (by kernel_rfl) (by kernel_rfl) (fun _ _ _ _ h => h) rfl ?_; apply Exists.intro; refine ⟨fun v1 hv1 => ?_, ?_⟩; (· (go_simp; rfl)); simp only [Act.put, List.setIfInBounds_toArray, List.set_cons_zero, List.set_cons_succ]
  refine anyR_val Later.pre 18 rfl (by kernel_rfl) (by kernel_rfl) (by kernel_rfl) (fun _ _ _ _ h => h) rfl ?_; apply Exists.intro; refine ⟨fun v1 hv1 => ?_, ?_⟩; (· (go_simp; rfl)); simp only [Act.put, List.setIfInBounds_toArray, List.set_cons_zero, List.set_cons_succ]
  refine anyR_val Later.pre 19 rfl (by kernel_rfl) (by kernel_rfl) (by kernel_rfl) (fun _ _ _ _ h => h) rfl ?_; apply Exists.intro; refine ⟨fun v1 hv1 => ?_, ?_⟩; (· (go_simp; rfl)); simp only [Act.put, List.setIfInBounds_toArray, List.set_cons_zero, List.set_cons_succ]
  refine anyR_val Later.pre 20 rfl (by kernel_rfl) (by kernel_rfl) (by kernel_rfl) (fun _ _ _ _ h => h) rfl ?_; apply Exists.intro; refine ⟨fun v1 hv1 => ?_, ?_⟩; (· (go_simp; rfl)); simp only [Act.put, List.setIfInBounds_toArray, List.set_cons_zero, List.set_cons_succ]
  refine anyR_val Later.pre 21 rfl (by kernel_rfl) (by kernel_rfl) (by kernel_rfl) (fun _ _ _ _ h => h) rfl ?_; apply Exists.intro; refine ⟨fun v1 hv1 => ?_, ?_⟩; (· (go_simp; rfl)); simp only [Act.put, List.setIfInBounds_toArray, List.set_cons_zero, List.set_cons_succ]
  refine anyR_val Later.pre 22 rfl (by kernel_rfl) (by kernel_rfl) (by kernel_rfl) (fun _ _ _ _ h => h) rfl ?_; apply Exists.intro; refine ⟨fun v1 hv1 => ?_, ?_⟩; (· (go_simp; rfl)); simp only [Act.put, List.setIfInBounds_toArray, List.set_cons_zero, List.set_cons_succ]
  refine anyR_done (by kernel_rfl) (fun V9 hV9 => ?_)
  go_wp2_with fail
  go_ret
  refine ⟨?_, hV0.trans hV9⟩
  rw [HW.out, ← addr_or x0 x1 x2 x3 b0 b1 b2 b3]
  rfl

/-- What the document's Address answers. -/
def AdQ (o : Option (List Int × Nat)) (p : Nat) (w w' : World) (e : Ending) : Prop := Later w w' ∧ ((o = none ∧ e = .returned (.tuple #[.int .u32 0, .int .i64 (p : Int), .bool false])) ∨ ∃ x q, o = some (x, q) ∧ e = .returned (.tuple #[.int .u32 (wat4 x 0), .int .i64 (q : Int), .bool true]))

set_option maxHeartbeats 4000000 in
theorem rAddress_any (bb off cp : Nat) (zs : List Int) (hz : Mt.By zs) (p : Nat) (w : World) (hI : Rd w.heap.size w (.slice (some ⟨bb, off, none⟩) zs.length cp) zs) (hl : zs.length ≤ 1000000) (hp : p ≤ zs.length) :
    Calls Tryz.prog 32 #[.slice (some ⟨bb, off, none⟩) zs.length cp, .int .i64 (p : Int)] w fun e w' => AdQ (rowF zs tDot 4 0 p) p w w' e := by
  have HN := hide (rnumbers_any bb off cp zs hz p 4 46 (by decide) w hI hl hp (by omega))
  have HB := hide (rowF_by zs tDot 4 0 p)
  have HLn := hide (rowF_len zs tDot 4 0 p)
  rw [show (⟨#[46]⟩ : ByteArray) = tDot from rfl] at HN
  generalize rowF zs tDot 4 0 p = o at *
  clear hI hz
  go_enter Tryz.func32, Tryz.ntmps32
  go_wp2_with fail
  refine HN.out.mono ?_
  rintro e w1 ⟨l1, ⟨rfl, q, rfl⟩ | ⟨x, q, v, rfl, rfl, hO⟩⟩
  · go_wp2_with fail
    exact bodyPost_ret (v := .tuple #[.int .u32 0, .int .i64 (p : Int), .bool false]) (by simp [results, Tryz.results32, go_sem]) rfl ⟨l1, .inl ⟨rfl, rfl⟩⟩
  · have HA := hide (raddr_any v x (HB.out (x, q) rfl) (by have := HLn.out (x, q) rfl; simp only at this; omega) _ w1 hO)
    clear hO
    go_wp2_with fail
    refine HA.out.mono ?_
    rintro e w2 ⟨rfl, l2⟩
    go_wp2_with fail
    exact bodyPost_ret (v := .tuple #[.int .u32 (wat4 x 0), .int .i64 (q : Int), .bool true]) (by simp [results, Tryz.results32, go_sem]) rfl ⟨l1.trans l2, .inr ⟨x, q, rfl, rfl⟩⟩

end Go.Proofs.YtibjgaelaijgpaaGreatDoor

/- Addresses and places as the document reads them: mathematics. -/
namespace Go.Proofs.YtibjgaelaijgpaaGreatDoor
open Go.RowKit Go.Shelf
set_option maxRecDepth 100000
set_option linter.unusedVariables false
set_option linter.unusedSimpArgs false

theorem dgZ_eq {zs : List Int} {q e : Nat} (hq : q ≤ e) (he : e ≤ zs.length) (h1 : ∀ j, q ≤ j → j < e → dgt (zs[j]?.getD 0) = true) (h2 : e = zs.length ∨ dgt (zs[e]?.getD 0) = false) : dgZ zs q = e := by
  have hle := dgZ_le (zs := zs) (p := q) (by omega)
  rcases Nat.lt_trichotomy (dgZ zs q) e with g | g | g
  · have := dgZ_out (zs := zs) (p := q) (by omega)
    rw [h1 _ hle.1 g] at this
    cases this
  · exact g
  · rcases h2 with h2 | h2
    · omega
    · have := dgZ_in (zs := zs) (p := q) (j := e) hq g
      rw [h2] at this
      cases this
/-- Numbers with dots between, as signs. -/
def rwL : Nat → List Int → List Int
  | _, [] => []
  | i, v :: xs => (if i = 0 then [] else [46]) ++ (dg v.toNat ++ rwL (i + 1) xs)
theorem drop_get {zs : List Int} {p : Nat} (h : p < zs.length) : zs.drop p = zs[p]?.getD 0 :: zs.drop (p + 1) := by
  rw [List.drop_eq_getElem_cons h, List.getElem?_eq_getElem h]
  rfl
/-- The digits from a place on, and what is behind. -/
theorem dgS_split {zs : List Int} (hz : Mt.By zs) {q : Nat} (hq : q ≤ zs.length) {v : Int} (hv : numV (dgS zs q) 255 = some v) : zs.drop q = dg v.toNat ++ zs.drop (dgZ zs q) := by
  have hle := dgZ_le (zs := zs) (p := q) hq
  have h1 := (numV_some hv).1
  unfold dgS at h1
  rw [nmsB_str _ (fun z hz' => hz z (List.mem_of_mem_drop (List.mem_of_mem_take hz')))] at h1
  rw [← h1]
  have : zs.drop (dgZ zs q) = (zs.drop q).drop (dgZ zs q - q) := by rw [List.drop_drop, Nat.add_sub_cancel' hle.1]
  rw [this, List.take_append_drop]
theorem row_fwd {zs : List Int} (hz : Mt.By zs) : ∀ (k i p : Nat) (x : List Int) (e : Nat), p ≤ zs.length → rowF zs tDot k i p = some (x, e) → zs.drop p = rwL i x ++ zs.drop e ∧ e ≤ zs.length ∧ p + (rwL i x).length = e ∧ (k ≠ 0 → e = zs.length ∨ dgt (zs[e]?.getD 0) = false)
  | 0, i, p, x, e, hp, h => by
    simp only [rowF, Option.some.injEq, Prod.mk.injEq] at h
    obtain ⟨rfl, rfl⟩ := h
    exact ⟨rfl, hp, rfl, fun h => absurd rfl h⟩
  | k + 1, i, p, x, e, hp, h => by
    unfold rowF at h
    obtain ⟨q, hq, h⟩ := Option.bind_eq_some_iff.1 h
    obtain ⟨v, hv, h⟩ := Option.bind_eq_some_iff.1 h
    obtain ⟨y, hy, he⟩ := Option.map_eq_some_iff.1 h
    obtain ⟨ys, ye⟩ := y
    simp only [Prod.mk.injEq] at he
    obtain ⟨rfl, rfl⟩ := he
    have hql : q ≤ zs.length ∧ zs.drop p = (if i = 0 then [] else [46]) ++ zs.drop q ∧ p + (if i = 0 then ([] : List Int) else [46]).length = q := by
      unfold nxP at hq
      by_cases h0 : i = 0
      · rw [if_pos h0] at hq
        cases hq
        rw [if_pos h0]
        exact ⟨hp, rfl, rfl⟩
      · rw [if_neg h0] at hq
        split at hq
        · rename_i ht
          cases hq
          unfold tkB at ht
          simp only [Bool.and_eq_true, decide_eq_true_eq] at ht
          rw [if_neg h0, drop_get ht.1, ht.2]
          exact ⟨ht.1, rfl, rfl⟩
        · cases hq
    obtain ⟨hql, hqd, hqe⟩ := hql
    have hle := dgZ_le (zs := zs) (p := q) hql
    have hsp := dgS_split hz hql hv
    obtain ⟨g1, g2, g3, g4⟩ := row_fwd hz k (i + 1) (dgZ zs q) ys ye hle.2 hy
    have hlen : (dg v.toNat).length = dgZ zs q - q := by
      have := congrArg List.length hsp
      rw [List.length_append, List.length_drop, List.length_drop] at this
      omega
    refine ⟨?_, g2, ?_, fun _ => ?_⟩
    · show _ = ((if i = 0 then [] else [46]) ++ (dg v.toNat ++ rwL (i + 1) ys)) ++ _
      rw [hqd, hsp, g1]
      simp only [List.append_assoc]
    · show p + ((if i = 0 then [] else [46]) ++ (dg v.toNat ++ rwL (i + 1) ys)).length = ye
      rw [List.length_append, List.length_append]
      omega
    · cases k with
      | zero =>
        simp only [rowF, Option.some.injEq, Prod.mk.injEq] at hy
        obtain ⟨rfl, rfl⟩ := hy
        by_cases hl : dgZ zs q < zs.length
        · exact .inr (dgZ_out hl)
        · exact .inl (by omega)
      | succ k => exact g4 (by omega)
/-- What follows is no digit. -/
def NoD (r : List Int) : Prop := ∀ z, r.head? = some z → dgt z = false
theorem row_bwd {zs : List Int} (hz : Mt.By zs) : ∀ (x : List Int) (i p : Nat) (r : List Int), p ≤ zs.length → (∀ v ∈ x, 0 ≤ v ∧ v ≤ 255) → zs.drop p = rwL i x ++ r → NoD r → rowF zs tDot x.length i p = some (x, p + (rwL i x).length)
  | [], i, p, r, hp, _, _, _ => rfl
  | v :: x, i, p, r, hp, hx, h, hr => by
    have hv := hx v (List.mem_cons_self ..)
    obtain ⟨q, hq1, hq2, hq3, hq4⟩ : ∃ q, nxP zs tDot i p = some q ∧ q ≤ zs.length ∧ zs.drop q = dg v.toNat ++ (rwL (i + 1) x ++ r) ∧ p + (if i = 0 then ([] : List Int) else [46]).length = q := by
      unfold nxP
      have h' : zs.drop p = (if i = 0 then [] else [46]) ++ (dg v.toNat ++ (rwL (i + 1) x ++ r)) := by
        rw [h]
        show ((if i = 0 then [] else [46]) ++ (dg v.toNat ++ rwL (i + 1) x)) ++ r = _
        simp only [List.append_assoc]
      by_cases h0 : i = 0
      · rw [if_pos h0] at h' ⊢
        exact ⟨p, rfl, hp, h', by rw [if_pos h0]; rfl⟩
      · rw [if_neg h0] at h' ⊢
        have hpl : p < zs.length := by
          have := congrArg List.length h'
          rw [List.length_drop] at this
          simp at this
          omega
        have h2 := drop_get hpl
        rw [h'] at h2
        simp only [List.cons_append, List.nil_append, List.cons.injEq] at h2
        have ht : tkB zs p tDot = true := by
          unfold tkB
          rw [decide_eq_true hpl, ← h2.1]
          rfl
        rw [if_pos ht]
        exact ⟨p + 1, rfl, hpl, h2.2.symm, by rw [if_neg h0]; rfl⟩
    have hln := congrArg List.length hq3
    rw [List.length_drop, List.length_append] at hln
    have hnd : NoD (rwL (i + 1) x ++ r) := by
      cases x with
      | nil => exact hr
      | cons y x =>
        intro z hz'
        have : rwL (i + 1) (y :: x) ++ r = 46 :: (dg y.toNat ++ rwL (i + 1 + 1) x ++ r) := by
          show ((if i + 1 = 0 then [] else [46]) ++ (dg y.toNat ++ rwL (i + 1 + 1) x)) ++ r = _
          rw [if_neg (by omega)]
          rfl
        rw [this] at hz'
        simp only [List.head?_cons, Option.some.injEq] at hz'
        subst hz'
        decide +kernel
    have hget : ∀ j, q + j < zs.length → zs[q + j]? = (dg v.toNat ++ (rwL (i + 1) x ++ r))[j]? := fun j hj => by rw [← hq3, List.getElem?_drop]
    have hdz : dgZ zs q = q + (dg v.toNat).length := by
      refine dgZ_eq (by omega) (by omega) (fun j h1 h2 => ?_) ?_
      · obtain ⟨k, rfl⟩ : ∃ k, j = q + k := ⟨j - q, by omega⟩
        rw [hget k (by omega), List.getElem?_append_left (by omega), List.getElem?_eq_getElem (by omega)]
        exact dg_dgt _ _ (List.getElem_mem _)
      · by_cases he : q + (dg v.toNat).length < zs.length
        · right
          rw [hget _ he, List.getElem?_append_right (Nat.le_refl _), Nat.sub_self]
          cases hc : (rwL (i + 1) x ++ r) with
          | nil => rw [hc] at hln; simp at hln; omega
          | cons z t => exact hnd z (by rw [hc]; rfl)
        · left; omega
    have hds : dgS zs q = decB v.toNat := by
      unfold dgS
      rw [hdz, Nat.add_sub_cancel_left, hq3, List.take_left]
      exact str_nms (decB v.toNat)
    have hnv : numV (dgS zs q) 255 = some v := by
      rw [hds, numV_dg v.toNat 255 (by omega), Int.toNat_of_nonneg hv.1]
    have ih := row_bwd hz x (i + 1) (q + (dg v.toNat).length) r (by omega) (fun u hu => hx u (List.mem_cons_of_mem _ hu)) (by rw [← List.drop_drop, hq3, List.drop_left]) hr
    unfold rowF
    simp only [List.length_cons]
    rw [hq1, Option.bind_some, hnv, Option.bind_some, hdz, ih]
    simp only [Option.map_some]
    congr 2
    show q + (dg v.toNat).length + (rwL (i + 1) x).length = p + ((if i = 0 then [] else [46]) ++ (dg v.toNat ++ rwL (i + 1) x)).length
    rw [List.length_append, List.length_append]
    omega
theorem adB_rwL (a : Int) : nmsB (adB a) = rwL 0 (ad4 a) := by
  rw [adB_form, nmsB_app, nmsB_app, nmsB_app, nmsB_app, nmsB_app, nmsB_app]
  have t : nmsB tDot = [46] := rfl
  rw [t]
  simp [ad4, rwL, dg]
theorem ad4_wat {x : List Int} (hx : Mt.By x) (hl : x.length = 4) : ad4 (wat4 x 0) = x ∧ 0 ≤ wat4 x 0 ∧ wat4 x 0 ≤ 4294967295 := by
  match x, hl with
  | [a, b, c, d], _ =>
    have h1 := hx a (by simp)
    have h2 := hx b (by simp)
    have h3 := hx c (by simp)
    have h4 := hx d (by simp)
    have e : wat4 [a, b, c, d] 0 = (a * 256 + b) * 65536 + (c * 256 + d) := rfl
    rw [e]
    refine ⟨?_, by omega, by omega⟩
    unfold ad4
    simp only [List.cons.injEq, and_true]
    refine ⟨by omega, by omega, by omega, by omega⟩
/-- An address that is found is written there. -/
theorem ad_fwd {zs : List Int} (hz : Mt.By zs) {p e : Nat} {x : List Int} (hp : p ≤ zs.length) (h : rowF zs tDot 4 0 p = some (x, e)) : zs.drop p = nmsB (adB (wat4 x 0)) ++ zs.drop e ∧ e ≤ zs.length ∧ p + (adB (wat4 x 0)).size = e ∧ (e = zs.length ∨ dgt (zs[e]?.getD 0) = false) := by
  obtain ⟨h1, h2, h3, h4⟩ := row_fwd hz 4 0 p x e hp h
  have hx := (ad4_wat (rowF_by zs tDot 4 0 p (x, e) h) (rowF_len zs tDot 4 0 p (x, e) h)).1
  have e1 : nmsB (adB (wat4 x 0)) = rwL 0 x := by rw [adB_rwL, hx]
  refine ⟨by rw [e1]; exact h1, h2, ?_, h4 (by omega)⟩
  rw [← nmsB_len, e1]
  exact h3
/-- An address that is written there is found. -/
theorem ad_bwd {zs : List Int} (hz : Mt.By zs) {p : Nat} {a : Int} (ha : 0 ≤ a ∧ a ≤ 4294967295) {r : List Int} (hp : p ≤ zs.length) (h : zs.drop p = nmsB (adB a) ++ r) (hr : NoD r) : rowF zs tDot 4 0 p = some (ad4 a, p + (adB a).size) := by
  have := row_bwd hz (ad4 a) 0 p r hp (fun v hv => ad4_by a ha v hv) (by rw [← adB_rwL]; exact h) hr
  rw [← adB_rwL, nmsB_len] at this
  exact this
theorem wat_ad4 (a : Int) (ha : 0 ≤ a ∧ a ≤ 4294967295) : wat4 (ad4 a) 0 = a := by
  show ((a / 16777216) * 256 + a / 65536 % 256) * 65536 + (a / 256 % 256 * 256 + a % 256) = a
  omega
end Go.Proofs.YtibjgaelaijgpaaGreatDoor

/- A place as the document reads it: mathematics. -/
namespace Go.Proofs.YtibjgaelaijgpaaGreatDoor
open Go.RowKit Go.Shelf
set_option maxRecDepth 100000
set_option linter.unusedVariables false
set_option linter.unusedSimpArgs false

theorem ext_nms (s : ByteArray) (i j : Nat) : nmsB (s.extract i j) = ((nmsB s).take j).drop i := by
  unfold nmsB
  rw [ba_ext_list, List.map_drop, List.map_take]
theorem nms_inj {s t : ByteArray} (h : nmsB s = nmsB t) : s = t := by rw [← str_nms s, ← str_nms t, h]
/-- What stands from a place to an end, and behind. -/
theorem part_split (s : ByteArray) {i j : Nat} (h : i ≤ j) : (nmsB s).drop i = nmsB (s.extract i j) ++ (nmsB s).drop j := by
  rw [ext_nms, List.drop_take]
  have : (nmsB s).drop j = ((nmsB s).drop i).drop (j - i) := by rw [List.drop_drop, Nat.add_sub_cancel' h]
  rw [this, List.take_append_drop]
theorem noD_at (s : ByteArray) {e : Nat} (he : e = s.size ∨ dgt (bAt s e) = false) : NoD ((nmsB s).drop e) := fun z hz => by
  by_cases hl : e < s.size
  · rcases he with he | he
    · omega
    · rw [drop_get (by rw [nmsB_len]; exact hl), nmsB_get s e hl] at hz
      simp only [List.head?_cons, Option.some.injEq] at hz
      rw [← hz]
      exact he
  · rw [List.drop_of_length_le (by rw [nmsB_len]; omega)] at hz
    cases hz
section
variable {s : ByteArray} {a e : Nat} {c : Cg} {h : Int} (hh : 0 ≤ h ∧ h ≤ 4294967295) (hc : c.host = adB h) (hae : a ≤ e) (hes : e ≤ s.size) (hen : e = s.size ∨ dgt (bAt s e) = false)
include hh hae hes hen in
theorem pl_known (hq : eqS (cutA (s.extract a e) cln) (adB h) = true) : rowF (nmsB s) tDot 4 0 a = some (ad4 h, a + (adB h).size) ∧ a + (adB h).size ≤ e ∧ (a + (adB h).size = e ∨ bAt s (a + (adB h).size) = 58) := by
  have hca := eqS_iff.1 hq
  have hT : (s.extract a e).size = e - a := by rw [ByteArray.size_extract]; omega
  have hsp := part_split s hae
  cases hf : cutF (s.extract a e) cln with
  | true =>
    have hy := cut_yes hf
    rw [hca] at hy
    have hsz := congrArg ByteArray.size hy
    rw [ByteArray.size_append, ByteArray.size_append, hT, show cln.size = 1 from rfl] at hsz
    have e1 : (nmsB s).drop a = nmsB (adB h) ++ (58 :: (nmsB (cutZ (s.extract a e) cln) ++ (nmsB s).drop e)) := by
      rw [hsp]
      conv => lhs; rw [hy]
      rw [nmsB_app, nmsB_app]
      simp only [List.append_assoc]
      rfl
    refine ⟨ad_bwd (nmsB_by s) hh (by rw [nmsB_len]; omega) e1 (fun z hz => by simp only [List.head?_cons, Option.some.injEq] at hz; subst hz; decide +kernel), by omega, .inr ?_⟩
    have h2 := congrArg (fun l => l[(adB h).size]?) e1
    simp only [List.getElem?_drop] at h2
    rw [List.getElem?_append_right (by rw [nmsB_len]; exact Nat.le_refl _), nmsB_len, Nat.sub_self] at h2
    rw [← nmsB_get s _ (by omega), h2]
    rfl
  | false =>
    have hn := (cut_no hf).1
    rw [hca] at hn
    have hsz := congrArg ByteArray.size hn
    rw [hT] at hsz
    have e1 : (nmsB s).drop a = nmsB (adB h) ++ (nmsB s).drop e := by rw [hsp, ← hn]
    exact ⟨ad_bwd (nmsB_by s) hh (by rw [nmsB_len]; omega) e1 (noD_at s hen), by omega, .inl (by omega)⟩
include hc in
theorem pl_other (hq : eqS (cutA (s.extract a e) cln) (adB h) = false) : plB c (s.extract a e) = s.extract a e := by
  unfold plB
  rw [hc, if_pos hq]
include hae hes in
theorem pl_form {x : List Int} {k : Nat} (hr : rowF (nmsB s) tDot 4 0 a = some (x, k)) (hx : wat4 x 0 = h) (hk : k ≤ e) : a + (adB h).size = k ∧ s.extract a e = adB h ++ s.extract k e := by
  obtain ⟨h1, h2, h3, h4⟩ := ad_fwd (nmsB_by s) (by rw [nmsB_len]; omega) hr
  rw [hx] at h1 h3
  refine ⟨h3, nms_inj ?_⟩
  rw [nmsB_app]
  have e1 := part_split s hae
  have e2 := part_split s hk
  rw [h1, e2, ← List.append_assoc] at e1
  exact (List.append_cancel_right e1).symm
include hh hc hae hes hen in
/-- No address of the host: it stays. -/
theorem pl_none (hn : ∀ x k, rowF (nmsB s) tDot 4 0 a = some (x, k) → wat4 x 0 = h → k ≤ e → k < e ∧ bAt s k ≠ 58) : plB c (s.extract a e) = s.extract a e := by
  cases hq : eqS (cutA (s.extract a e) cln) (adB h) with
  | false => exact pl_other hc hq
  | true =>
    obtain ⟨h1, h2, h3⟩ := pl_known hh hae hes hen hq
    obtain ⟨g1, g2⟩ := hn _ _ h1 (wat_ad4 h hh) h2
    rcases h3 with h3 | h3
    · omega
    · exact absurd h3 g2
include hc hae hes in
/-- The address alone. -/
theorem pl_bare {x : List Int} (hr : rowF (nmsB s) tDot 4 0 a = some (x, e)) (hx : wat4 x 0 = h) : plB c (s.extract a e) = c.is := by
  obtain ⟨_, hf⟩ := pl_form hae hes hr hx (Nat.le_refl _)
  have he : s.extract e e = ⟨#[]⟩ := str_empty _ (by rw [ByteArray.size_extract]; omega)
  have hT : s.extract a e = adB h := by rw [hf, he]; exact ba_ext (by rw [ba_app]; simp)
  have hno : cutF (adB h) cln = false := by
    cases hc' : cutF (adB h) cln with
    | false => rfl
    | true =>
      have := congrArg (fun y : ByteArray => y.data.toList) (cut_yes hc')
      rw [ba_app, ba_app] at this
      have hm : (58 : UInt8) ∈ (adB h).data.toList := by rw [this]; simp [cln]
      have := adB_dgd h _ hm
      revert this
      decide
  unfold plB
  rw [hT, (cut_no hno).1, hc, if_neg (by rw [eqS_iff.2 rfl]; simp), if_pos hno]
include hc hae hes in
theorem pl_port {x : List Int} {k : Nat} (hr : rowF (nmsB s) tDot 4 0 a = some (x, k)) (hx : wat4 x 0 = h) (hk : k < e) (hcl : bAt s k = 58) : plB c (s.extract a e) = match prV (s.extract (k + 1) e) with
    | none => s.extract a e
    | some p => c.is ++ cln ++ decB (if p = c.port then c.np else p).toNat := by
  obtain ⟨_, hf⟩ := pl_form hae hes hr hx (by omega)
  have hk1 : s.extract k e = cln ++ s.extract (k + 1) e := by
    apply nms_inj
    rw [nmsB_app, ext_nms, ext_nms]
    rw [List.drop_take, List.drop_take]
    have hd := drop_get (zs := nmsB s) (p := k) (by rw [nmsB_len]; omega)
    rw [nmsB_get s k (by omega), hcl] at hd
    rw [hd, show e - k = (e - (k + 1)) + 1 from by omega, List.take_succ_cons]
    rfl
  obtain ⟨c1, c2, c3⟩ := cut_uniq (s := s.extract a e) (p := cln) (a := adB h) (z := s.extract (k + 1) e) (by rw [hf, hk1]) (by
    rw [hf, ba_app, ba_len]
    exact noOcc1 (fun hm => by have := adB_dgd h _ hm; revert this; decide))
  unfold plB
  rw [c1, c2, c3, hc, if_neg (by rw [eqS_iff.2 rfl]; simp), if_neg (by simp)]
  rfl
include hes hen in
/-- The port that is written there is the document's number, and up to the end. -/
theorem pr_num {k : Nat} (hk : k < e) : (∀ n, numD (nmsB s) (k + 1) 65535 = some (n, e) → n ≠ 0 → prV (s.extract (k + 1) e) = some n) ∧ (∀ p, prV (s.extract (k + 1) e) = some p → numD (nmsB s) (k + 1) 65535 = some (p, e) ∧ p ≠ 0) := by
  have hkl : k + 1 ≤ (nmsB s).length := by rw [nmsB_len]; omega
  have hD : ∀ z, z = e → strOfNums (((nmsB s).drop (k + 1)).take (z - (k + 1))) = s.extract (k + 1) e := fun z hz => by
    rw [hz, ← List.drop_take, ← ext_nms, str_nms]
  constructor
  · intro n hn h0
    rw [numD_is (nmsB_by s) hkl (by omega)] at hn
    cases hv : numV (dgS (nmsB s) (k + 1)) 65535 with
    | none => rw [hv] at hn; cases hn
    | some v =>
      rw [hv] at hn
      simp only [Option.map_some, Option.some.injEq, Prod.mk.injEq] at hn
      obtain ⟨rfl, hz⟩ := hn
      unfold dgS at hv
      rw [hD _ hz] at hv
      unfold prV
      rw [hv]
      simp [h0]
  · intro p hp
    have hd := prV_digits hp
    have hz : dgZ (nmsB s) (k + 1) = e := by
      refine dgZ_eq (by omega) (by rw [nmsB_len]; exact hes) (fun j h1 h2 => ?_) ?_
      · have hj : j - (k + 1) < (s.extract (k + 1) e).data.toList.length := by rw [← ba_len, ByteArray.size_extract]; omega
        have h3 := hd _ (List.getElem_mem hj)
        rw [nmsB_get s j (by omega)]
        have h4 : (s.extract (k + 1) e).data.toList[j - (k + 1)]? = s.data.toList[j]? := by
          rw [ba_ext_list, List.getElem?_drop, List.getElem?_take_of_lt (by omega), show k + 1 + (j - (k + 1)) = j from by omega]
        rw [List.getElem?_eq_getElem hj, List.getElem?_eq_getElem (by rw [← ba_len]; omega)] at h4
        rw [bAt_L s j (by rw [← ba_len]; omega)]
        rw [← Option.some.inj h4]
        exact h3
      · rcases hen with q | q
        · exact .inl (by rw [nmsB_len]; exact q)
        · by_cases hl : e < s.size
          · exact .inr (by rw [nmsB_get s e hl]; exact q)
          · exact .inl (by rw [nmsB_len]; omega)
    have hpr := prV_rng _ hp
    unfold prV at hp
    cases hv : numV (s.extract (k + 1) e) 65535 with
    | none => rw [hv] at hp; cases hp
    | some v =>
      rw [hv] at hp
      simp only at hp
      split at hp
      · cases hp
      · cases hp
        refine ⟨?_, by omega⟩
        rw [numD_is (nmsB_by s) hkl (by omega)]
        unfold dgS
        rw [hD _ hz, hv, hz]
        rfl
end
end Go.Proofs.YtibjgaelaijgpaaGreatDoor

/- The signs that end a place: mathematics. -/
namespace Go.Proofs.YtibjgaelaijgpaaGreatDoor
open Go.RowKit Go.Shelf
set_option maxRecDepth 100000
set_option linter.unusedVariables false
set_option linter.unusedSimpArgs false

theorem sg_find (ends : ByteArray) (he : ends = enV ∨ ends = enK) (u : UInt8) : decide (fnI ends ⟨#[u]⟩ < 0) = !enC ends (u.toNat : Int) := by
  have h1 : ∀ n : Nat, n < 256 → decide (fnI enV ⟨#[UInt8.ofNat n]⟩ < 0) = !enC enV (n : Int) := by decide +kernel
  have h2 : ∀ n : Nat, n < 256 → decide (fnI enK ⟨#[UInt8.ofNat n]⟩ < 0) = !enC enK (n : Int) := by decide +kernel
  have e : UInt8.ofNat u.toNat = u := by simp
  rcases he with rfl | rfl
  · have := h1 u.toNat u.toNat_lt
    rwa [e] at this
  · have := h2 u.toNat u.toNat_lt
    rwa [e] at this
theorem one_ext (s : ByteArray) (j : Nat) (h : j < s.size) : s.extract j (j + 1) = ⟨#[s[j]'h]⟩ := by
  apply nms_inj
  rw [ext_nms, List.drop_take, Nat.add_sub_cancel_left, drop_get (by rw [nmsB_len]; exact h), nmsB_get s j h]
  show [bAt s j] = nmsB ⟨#[s[j]'h]⟩
  rw [← bAt_get s j h]
  rfl
/-- An end of a place is no digit. -/
theorem en_nodg (ends : ByteArray) (he : ends = enV ∨ ends = enK) (u : UInt8) (h : enC ends (u.toNat : Int) = true) : dgt (u.toNat : Int) = false := by
  have h1 : ∀ n : Nat, n < 256 → enC enV (n : Int) = true → dgt (n : Int) = false := by decide +kernel
  have h2 : ∀ n : Nat, n < 256 → enC enK (n : Int) = true → dgt (n : Int) = false := by decide +kernel
  rcases he with rfl | rfl
  · exact h1 u.toNat u.toNat_lt h
  · exact h2 u.toNat u.toNat_lt h
/-- The document's place. -/
def plD (c : Cg) (s ends : ByteArray) (a : Nat) : ByteArray := s.extract 0 a ++ plB c (s.extract a (a + endP ends (s.extract a s.size))) ++ s.extract (a + endP ends (s.extract a s.size)) s.size
theorem plD_same {c : Cg} {s ends : ByteArray} {a : Nat} (ha : a ≤ s.size) {e : Nat} (he : a + endP ends (s.extract a s.size) = e) (h : plB c (s.extract a e) = s.extract a e) : plD c s ends a = s := by
  have hl := endP_le ends (s.extract a s.size)
  rw [ByteArray.size_extract] at hl
  unfold plD
  rw [he, h]
  apply nms_inj
  rw [nmsB_app, nmsB_app, ext_nms, ext_nms, ext_nms, List.drop_zero]
  have h1 : (nmsB s).take s.size = nmsB s := List.take_of_length_le (by rw [nmsB_len]; exact Nat.le_refl _)
  rw [h1, List.append_assoc, List.drop_take]
  have h2 : (nmsB s).drop e = ((nmsB s).drop a).drop (e - a) := by rw [List.drop_drop, Nat.add_sub_cancel' (by omega)]
  rw [h2, List.take_append_drop, List.take_append_drop]
/-- In a header's value what stands behind the mark is the document's place. -/
theorem wiB_plD (c : Cg) (v mark ends : ByteArray) (h : cutF v mark = true) : wiB c v mark ends = plD c v ends ((cutA v mark).size + mark.size) := by
  have hy := cut_yes h
  have hn : nmsB v = (nmsB (cutA v mark) ++ nmsB mark) ++ nmsB (cutZ v mark) := by
    have := congrArg nmsB hy
    rw [nmsB_app, nmsB_app, ← List.append_assoc] at this
    exact this
  have hl : (nmsB (cutA v mark) ++ nmsB mark).length = (cutA v mark).size + mark.size := by rw [List.length_append, nmsB_len, nmsB_len]
  have hz : v.extract ((cutA v mark).size + mark.size) v.size = cutZ v mark := by
    apply nms_inj
    rw [ext_nms, List.take_of_length_le (by rw [nmsB_len]; exact Nat.le_refl _), hn, List.drop_left' hl]
  have hp : v.extract 0 ((cutA v mark).size + mark.size) = cutA v mark ++ mark := by
    apply nms_inj
    rw [ext_nms, List.drop_zero, hn, List.take_left' hl, nmsB_app]
  have hx : ∀ i j, v.extract ((cutA v mark).size + mark.size + i) ((cutA v mark).size + mark.size + j) = (cutZ v mark).extract i j := fun i j => by
    apply nms_inj
    rw [ext_nms, ext_nms, List.drop_take, List.drop_take, hn, ← List.drop_drop, List.drop_left' hl]
    congr 1
    omega
  have hsz : v.size = (cutA v mark).size + mark.size + (cutZ v mark).size := by
    have := congrArg ByteArray.size hy
    rw [ByteArray.size_append, ByteArray.size_append] at this
    omega
  unfold wiB plD
  rw [if_neg (by rw [h]; simp), hz, hp]
  have h1 := hx 0 (endP ends (cutZ v mark))
  rw [Nat.add_zero] at h1
  have h2 := hx (endP ends (cutZ v mark)) (cutZ v mark).size
  rw [← hsz] at h2
  rw [h1, h2]
end Go.Proofs.YtibjgaelaijgpaaGreatDoor

/- The walk of the document's place. -/
namespace Go.Proofs.YtibjgaelaijgpaaGreatDoor
open Go.RowKit Go.Shelf
set_option maxRecDepth 100000
set_option linter.unusedVariables false
set_option linter.unusedSimpArgs false

theorem bAt_from (s : ByteArray) (a j : Nat) (h : a + j < s.size) : bAt (s.extract a s.size) j = bAt s (a + j) := by
  have hs : j < (s.extract a s.size).size := by rw [ByteArray.size_extract]; omega
  rw [nmsB_at _ _ hs, nmsB_at _ _ h, ext_nms, List.getElem?_drop, List.getElem?_take_of_lt h]

set_option maxRecDepth 100000 in
set_option maxHeartbeats 16000000 in
theorem rplace_any (c : Cg) (s : ByteArray) (a : Nat) (ends : ByteArray) (hen : ends = enV ∨ ends = enK) (h t : Int) (hh : 0 ≤ h ∧ h ≤ 4294967295) (ht : 0 ≤ t ∧ t ≤ 4294967295) (p q : Nat) (hp : p ≤ 65535) (hq : q ≤ 65535) (hc1 : c.host = adB h) (hc2 : c.is = adB t) (hc3 : c.port = (p : Int)) (hc4 : c.np = (q : Int)) (w : World) (hs : s.size ≤ 100000) (ha : a ≤ s.size) :
    Calls Tryz.prog 17 #[.string s, .int .i64 (a : Int), .string ends, .int .u32 h, .int .u32 t, .int .u16 (p : Int), .int .u16 (q : Int)] w fun e w' => e = .returned (.string (plD c s ends a)) ∧ Later w w' := by
  have hcH := hide hc1
  have hcI := hide hc2
  have hcP := hide hc3
  have hcN := hide hc4
  have hes : ends.size ≤ 2 := by rcases hen with rfl | rfl <;> decide
  have HSG := hide (fun u => sg_find ends hen u)
  have HED := hide (fun u => en_nodg ends hen u)
  clear hc1 hc2 hc3 hc4 hen
  go_enter Tryz.func17, Tryz.ntmps17
  go_upto_region 2 with fail
  go_loopw [15] (fun ev wr => ∃ e : Nat, a ≤ e ∧ e ≤ s.size ∧ ev = .int .i64 (e : Int) ∧ wr = w ∧ Hid (∀ j, a ≤ j → j < e → enC ends (bAt s j) = false)) (fun ev _ => s.size - (intOf ev).toNat)
  case atStart => exact ⟨a, by omega, by omega, rfl, rfl, fun j h1 h2 => by omega⟩
  case round =>
    obtain ⟨e, hae, hel, rfl, hwr, HN⟩ := hrel
    subst hwr
    by_cases hlt : e < s.size
    · have hlt1 : (e : Int) < (s.size : Int) := by omega
      have hlt2 : (e : Int) + 1 ≤ (s.size : Int) := by omega
      have HFI := hide (rfind_any ends (s.extract e (e + 1)) wr (by omega) (by rw [ByteArray.size_extract]; omega))
      have hone := one_ext s e hlt
      have hsg := HSG.out (s[e]'hlt)
      rw [← hone] at hsg
      have hbg := bAt_get s e hlt
      rw [hbg] at hsg
      have HEN0 : Hid (enC ends (bAt s e) = true → dgt (bAt s e) = false) := fun hc => by
        have := HED.out (s[e]'hlt)
        rw [hbg] at this
        exact this hc
      have HSU : Hid (enC ends (bAt s e) = false → ∀ j, a ≤ j → j < e + 1 → enC ends (bAt s j) = false) := fun hc j h1 h2 => by
        rcases Nat.lt_or_eq_of_le (Nat.lt_succ_iff.1 h2) with g | rfl
        · exact HN.out j h1 g
        · exact hc
      have HE0 : Hid (enC ends (bAt s e) = true → a + endP ends (s.extract a s.size) = e) := fun hc => by
        have := endP_at (s := ends) (t := s.extract a s.size) (p := e - a) (by rw [ByteArray.size_extract]; omega) (by rw [bAt_from s a _ (by omega), Nat.add_sub_cancel' hae]; exact hc) (fun j hj => by rw [bAt_from s a j (by omega)]; exact HN.out _ (by omega) (by omega))
        omega
      generalize enC ends (bAt s e) = b at *
      generalize hfv : fnI ends (s.extract e (e + 1)) = fi at *
      clear hone hbg hfv HN
      go_wp2_with fail
      refine HFI.out.mono ?_
      rintro e' w1 ⟨rfl, hw1⟩
      have hw2 := hw1.symm
      subst hw2
      cases b with
      | false =>
        have hf0 : fi < 0 := by simpa using hsg
        have HN2 := hide (HSU.out rfl)
        clear hsg HFI HSU HEN0 HE0
        go_wp2_with fail
        go_roundw
        case rel => exact ⟨e + 1, by omega, by omega, by go_num, by first | trivial | rfl, HN2⟩
        case measure => simp [intOf]; omega
      | true =>
        have hf0 : ¬ fi < 0 := by simpa using hsg
        have HEN : Hid (e = s.size ∨ dgt (bAt s e) = false) := .inr (HEN0.out rfl)
        have HE := hide (HE0.out rfl)
        clear hsg HFI HSU HEN0 HE0 HSG HED
        go_upto_region 4 with fail
        clear hf0
        have hG := conv_G wr s (by omega)
        have hcv := Lib.run_convert_string_bytes wr 9 23 5 s Tryz.underlying9 Tryz.underlying23 Tryz.underlying5
        have lc := conv_later wr 5 s
        have hR := hG.rd
        generalize Lib.bytesWorld wr 5 s = w2 at *
        generalize grownCap wr s.size 0 5 = gcp at *
        have HAD := hide (rAddress_any wr.heap.size 0 gcp (nmsB s) (nmsB_by s) a w2 (by rw [nmsB_len]; exact hR) (by rw [nmsB_len]; omega) (by rw [nmsB_len]; omega))
        rw [nmsB_len] at HAD
        clear hG hR
        generalize wr.heap.size = gq at *
        have HNO : Hid (∀ o, rowF (nmsB s) tDot 4 0 a = o → (∀ x k, o = some (x, k) → wat4 x 0 = h → k ≤ e → k < e ∧ bAt s k ≠ 58) → plD c s ends a = s) := fun o ho hn => plD_same (by omega) HE.out (pl_none hh hcH.out (by omega) (by omega) HEN.out (fun x k hx => hn x k (ho ▸ hx)))
        have HBA : Hid (∀ x, rowF (nmsB s) tDot 4 0 a = some (x, e) → wat4 x 0 = h → plD c s ends a = s.extract 0 a ++ c.is ++ s.extract e s.size) := fun x hx hw => by
          unfold plD
          rw [HE.out, pl_bare hcH.out (by omega) (by omega) hx hw]
        have HPO : Hid (∀ x k, rowF (nmsB s) tDot 4 0 a = some (x, k) → wat4 x 0 = h → k < e → bAt s k = 58 → ((∀ n, numD (nmsB s) (k + 1) 65535 = some (n, e) → n ≠ 0 → (1 ≤ n ∧ n ≤ 65535) ∧ plD c s ends a = s.extract 0 a ++ (c.is ++ cln ++ decB (if n = c.port then c.np else n).toNat) ++ s.extract e s.size) ∧ ((∀ n, numD (nmsB s) (k + 1) 65535 = some (n, e) → n = 0) → plD c s ends a = s))) := fun x k hx hw hk hcl => by
          have hpl := pl_port hcH.out (by omega) (by omega) hx hw hk hcl
          obtain ⟨n1, n2⟩ := pr_num (by omega) HEN.out hk
          refine ⟨fun n hn h0 => ?_, fun hn => ?_⟩
          · refine ⟨prV_rng _ (n1 n hn h0), ?_⟩
            rw [n1 n hn h0] at hpl
            unfold plD
            rw [HE.out, hpl]
          · refine plD_same (by omega) HE.out ?_
            cases hpv : prV (s.extract (k + 1) e) with
            | none => rw [hpv] at hpl; exact hpl
            | some p => have := n2 p hpv; exact absurd (hn p this.1) this.2
        have HIN : Hid (∀ x k, rowF (nmsB s) tDot 4 0 a = some (x, k) → a ≤ k ∧ k ≤ s.size) := fun x k hx => by
          obtain ⟨_, g2, g3, _⟩ := ad_fwd (nmsB_by s) (by rw [nmsB_len]; omega) hx
          rw [nmsB_len] at g2
          exact ⟨by omega, g2⟩
        generalize hro : rowF (nmsB s) tDot 4 0 a = ro at *
        clear hro
        go_wp2_with fail
        refine HAD.out.mono ?_
        rintro e' w3 ⟨l3, hq⟩
        clear hcv HAD
        have L3 : Later wr w3 := lc.trans l3
        rcases hq with ⟨rfl, rfl⟩ | ⟨x, k, rfl, rfl⟩
        · have HV := hide (HNO.out none rfl (fun x k hx => by cases hx))
          go_wp2_with fail
          go_ret
          exact ⟨by rw [HV.out]; rfl, L3⟩
        obtain ⟨hk1, hk2⟩ := HIN.out x k rfl
        by_cases hx : wat4 x 0 = h
        · have t1 : (wat4 x 0 != h) = false := by simp [hx]
          by_cases hke : e < k
          · have t2 : (e : Int) < (k : Int) := by omega
            have HV := hide (HNO.out _ rfl (fun x' k' hx' _ hk' => by cases hx'; omega))
            generalize wat4 x 0 = ad at *
            clear hx
            go_wp2_with fail
            go_ret
            exact ⟨by rw [HV.out]; rfl, L3⟩
          · have t2 : ¬ (e : Int) < (k : Int) := by omega
            have HB2 : Hid (k = e → plD c s ends a = s.extract 0 a ++ c.is ++ s.extract e s.size) := fun hk => HBA.out x (by rw [hk]) hx
            have HP2 : Hid (k < e → bAt s k = 58 → _) := fun hk hcl => HPO.out x k rfl hx hk hcl
            have HN2 : Hid (k < e → bAt s k ≠ 58 → plD c s ends a = s) := fun hk hcl => HNO.out _ rfl (fun x' k' hx' _ _ => by cases hx'; exact ⟨hk, hcl⟩)
            generalize wat4 x 0 = ad at *
            clear hx HBA HPO HNO HIN
            go_upto_region 7 with fail
            clear t1 t2
            refine anyR_begin (R := Later) Later.pre Later.drew 7 rfl (by kernel_rfl) (fun V0 hV0 => ?_)
            refine anyR_val Later.pre 0 rfl (by kernel_rfl) (by kernel_rfl) (by kernel_rfl) (fun _ _ _ _ h => h) rfl ?_; apply Exists.intro; refine ⟨fun v1 hv1 => ?_, ?_⟩; (· (go_simp; rfl)); simp only [Act.put, List.setIfInBounds_toArray, List.set_cons_zero, List.set_cons_succ]
            refine anyR_val Later.pre 1 rfl (by kernel_rfl) (by kernel_rfl) (by kernel_rfl) (fun _ _ _ _ h => h) rfl ?_; apply Exists.intro; refine ⟨fun v1 hv1 => ?_, ?_⟩; (· (go_simp; rfl)); simp only [Act.put, List.setIfInBounds_toArray, List.set_cons_zero, List.set_cons_succ]
            refine anyR_val Later.pre 2 rfl (by kernel_rfl) (by kernel_rfl) (by kernel_rfl) (fun _ _ _ _ h => h) rfl ⟨.string (s.extract 0 a), fun v1 hv1 => (by first | (go_simp; done) | (go_simp; omega)), ?_⟩; simp only [Act.put, List.setIfInBounds_toArray, List.set_cons_zero, List.set_cons_succ]
            refine anyR_val Later.pre 3 rfl (by kernel_rfl) (by kernel_rfl) (by kernel_rfl) (fun _ _ _ _ h => h) rfl ?_; apply Exists.intro; refine ⟨fun v1 hv1 => ?_, ?_⟩; (· (go_simp; rfl)); simp only [Act.put, List.setIfInBounds_toArray, List.set_cons_zero, List.set_cons_succ]
            refine anyR_take Later.pre 4 (.string (adB t)) rfl (by kernel_rfl) (by kernel_rfl) (by kernel_rfl) (fun _ _ _ h => h) rfl (fun u hu => goes_call 29 #[.int .u32 t, .string ⟨#[46]⟩] (by go_simp) (tdotted_any t ht u)) ?_
            simp only [Act.put, List.setIfInBounds_toArray, List.set_cons_zero, List.set_cons_succ]
            have hs1 : (s.extract 0 a).size ≤ 100000 := by rw [ByteArray.size_extract]; omega
            have hs2 := adB_size t ht
            rw [← hcI.out] at hs2
            rw [← hcI.out]
            generalize s.extract 0 a = sa at *
            refine anyR_val Later.pre 5 rfl (by kernel_rfl) (by kernel_rfl) (by kernel_rfl) (fun _ _ _ _ h => h) rfl ⟨.string (sa ++ c.is), fun v1 hv1 => (by first | (go_simp; done) | (go_simp; omega)), ?_⟩; simp only [Act.put, List.setIfInBounds_toArray, List.set_cons_zero, List.set_cons_succ]
            refine anyR_val Later.pre 6 rfl (by kernel_rfl) (by kernel_rfl) (by kernel_rfl) (fun _ _ _ _ h => h) rfl ?_; apply Exists.intro; refine ⟨fun v1 hv1 => ?_, ?_⟩; (· (go_simp; rfl)); simp only [Act.put, List.setIfInBounds_toArray, List.set_cons_zero, List.set_cons_succ]
            refine anyR_done (by kernel_rfl) (fun V9 hV9 => ?_)
            have L9 : Later wr V9 := L3.trans (hV0.trans hV9)
            have hs3 : (s.extract e s.size).size ≤ 100000 := by rw [ByteArray.size_extract]; omega
            have e58 : ByteArray.size ⟨#[58]⟩ = 1 := rfl
            have he1 : (e : Int) ≤ (s.size : Int) := by omega
            by_cases hkq : k = e
            · have t3 : ((k : Int) == (e : Int)) = true := by simp [hkq]
              have HV := hide (HB2.out hkq)
              clear hkq HB2 HP2 HN2
              go_wp2_with fail
              go_ret
              exact ⟨by rw [HV.out]; rfl, L9⟩
            · have t3 : ((k : Int) == (e : Int)) = false := by rw [beq_eq_false_iff_ne]; omega
              have hk3 : k < e := by omega
              have hks : k < s.size := by omega
              have hbg := bAt_get s k hks
              clear HB2
              go_upto_region 10 with fail
              clear t3
              have hG := conv_G V9 s (by omega)
              have hcv := Lib.run_convert_string_bytes V9 9 23 5 s Tryz.underlying9 Tryz.underlying23 Tryz.underlying5
              have ld := conv_later V9 5 s
              have hR := hG.rd
              generalize Lib.bytesWorld V9 5 s = w4 at *
              generalize grownCap V9 s.size 0 5 = gcp2 at *
              have HNU := hide (rnumber_any V9.heap.size 0 gcp2 w4.heap.size (nmsB s) (nmsB_by s) (k + 1) 65535 w4 (by rw [nmsB_len]; exact hR) (by rw [nmsB_len]; omega) (by rw [nmsB_len]; omega) (by omega))
              rw [nmsB_len] at HNU
              have q1 : ((k + 1 : Nat) : Int) = (k : Int) + 1 := by omega
              rw [q1] at HNU
              clear hG hR q1
              have M4 : Later wr w4 := L9.trans ld
              generalize numD (nmsB s) (k + 1) 65535 = nd at *
              generalize V9.heap.size = gv at *
              go_wp2_with fail
              refine HNU.out.mono ?_
              rintro e' w5 ⟨rfl, hw5⟩
              have hw6 := hw5.symm
              subst hw6
              clear hcv HNU
              by_cases hcl : bAt s k = 58
              · have t4 : ((((s[k]'hks).toNat : Nat) : Int) != 58) = false := by rw [hbg, hcl]; rfl
                obtain ⟨P1, P2⟩ := HP2.out hk3 hcl
                clear HP2 HN2 hbg hcl
                cases nd with
                | none =>
                  have HV := hide (P2 (fun n hn => by cases hn))
                  clear P1 P2
                  simp only [Option.map_none, Option.getD_none, Option.isSome_none]
                  go_wp2_with fail
                  go_ret
                  exact ⟨by rw [HV.out]; rfl, M4⟩
                | some nz =>
                  obtain ⟨n, z⟩ := nz
                  simp only [Option.map_some, Option.getD_some, Option.isSome_some]
                  by_cases h0 : n = 0
                  · have HV := hide (P2 (fun n' hn => by cases hn; exact h0))
                    have t5 : (n == 0) = true := by simp [h0]
                    clear P1 P2 h0
                    go_wp2_with fail
                    go_ret
                    exact ⟨by rw [HV.out]; rfl, M4⟩
                  · have t5 : (n == 0) = false := by rw [beq_eq_false_iff_ne]; exact h0
                    by_cases hze : z = e
                    · obtain ⟨hnr, hv⟩ := P1 n (by rw [hze]) h0
                      have t6 : ((z : Int) != (e : Int)) = false := by simp [hze]
                      clear P1 P2
                      obtain ⟨nn, rfl⟩ : ∃ k : Nat, n = (k : Int) := ⟨n.toNat, by omega⟩
                      by_cases hnp : nn = p
                      · have HV : Hid (plD c s ends a = sa ++ (c.is ++ cln ++ decB q) ++ s.extract e s.size) := by
                          (show _ = _)
                          rw [hv, hcP.out, if_pos (by rw [hnp]), hcN.out, Int.toNat_natCast]
                        have t7 : ((nn : Int) == (p : Int)) = true := by simp [hnp]
                        clear hv h0 hze
                        go_upto_region 15 with fail
                        clear t4 t5 t6 t7
                        refine anyR_begin (R := Later) Later.pre Later.drew 10 rfl (by kernel_rfl) (fun U0 hU0 => ?_)
                        refine anyR_val Later.pre 0 rfl (by kernel_rfl) (by kernel_rfl) (by kernel_rfl) (fun _ _ _ _ h => h) rfl ?_; apply Exists.intro; refine ⟨fun v1 hv1 => ?_, ?_⟩; (· (go_simp; rfl)); simp only [Act.put, List.setIfInBounds_toArray, List.set_cons_zero, List.set_cons_succ]
                        refine anyR_val Later.pre 1 rfl (by kernel_rfl) (by kernel_rfl) (by kernel_rfl) (fun _ _ _ _ h => h) rfl ⟨.string (sa ++ c.is ++ ⟨#[58]⟩), fun v1 hv1 => (by first | (go_simp; done) | (go_simp; omega)), ?_⟩; simp only [Act.put, List.setIfInBounds_toArray, List.set_cons_zero, List.set_cons_succ]
                        refine anyR_val Later.pre 2 rfl (by kernel_rfl) (by kernel_rfl) (by kernel_rfl) (fun _ _ _ _ h => h) rfl ?_; apply Exists.intro; refine ⟨fun v1 hv1 => ?_, ?_⟩; (· (go_simp; rfl)); simp only [Act.put, List.setIfInBounds_toArray, List.set_cons_zero, List.set_cons_succ]
                        refine anyR_take Later.pre 3 (.string (decB q)) rfl (by kernel_rfl) (by kernel_rfl) (by kernel_rfl) (fun _ _ _ h => h) rfl (fun u hu => goes_call 18 #[.int .i64 ((q : Nat) : Int)] (by go_simp) (rdigits_any q (by omega) u)) ?_
                        simp only [Act.put, List.setIfInBounds_toArray, List.set_cons_zero, List.set_cons_succ]
                        have hds := decB_size q (by omega)
                        generalize decB q = dd at *
                        refine anyR_val Later.pre 4 rfl (by kernel_rfl) (by kernel_rfl) (by kernel_rfl) (fun _ _ _ _ h => h) rfl ⟨.string (sa ++ c.is ++ ⟨#[58]⟩ ++ dd), fun v1 hv1 => (by first | (go_simp; done) | (go_simp; omega)), ?_⟩; simp only [Act.put, List.setIfInBounds_toArray, List.set_cons_zero, List.set_cons_succ]
                        refine anyR_val Later.pre 5 rfl (by kernel_rfl) (by kernel_rfl) (by kernel_rfl) (fun _ _ _ _ h => h) rfl ?_; apply Exists.intro; refine ⟨fun v1 hv1 => ?_, ?_⟩; (· (go_simp; rfl)); simp only [Act.put, List.setIfInBounds_toArray, List.set_cons_zero, List.set_cons_succ]
                        refine anyR_val Later.pre 6 rfl (by kernel_rfl) (by kernel_rfl) (by kernel_rfl) (fun _ _ _ _ h => h) rfl ?_; apply Exists.intro; refine ⟨fun v1 hv1 => ?_, ?_⟩; (· (go_simp; rfl)); simp only [Act.put, List.setIfInBounds_toArray, List.set_cons_zero, List.set_cons_succ]
                        refine anyR_val Later.pre 7 rfl (by kernel_rfl) (by kernel_rfl) (by kernel_rfl) (fun _ _ _ _ h => h) rfl ⟨.string (s.extract e s.size), fun v1 hv1 => (by first | (go_simp; done) | (go_simp; omega)), ?_⟩; simp only [Act.put, List.setIfInBounds_toArray, List.set_cons_zero, List.set_cons_succ]
                        generalize s.extract e s.size = se at *
                        refine anyR_val Later.pre 8 rfl (by kernel_rfl) (by kernel_rfl) (by kernel_rfl) (fun _ _ _ _ h => h) rfl ⟨.string (sa ++ c.is ++ ⟨#[58]⟩ ++ dd ++ se), fun v1 hv1 => (by first | (go_simp; done) | (go_simp; omega)), ?_⟩; simp only [Act.put, List.setIfInBounds_toArray, List.set_cons_zero, List.set_cons_succ]
                        refine anyR_val Later.pre 9 rfl (by kernel_rfl) (by kernel_rfl) (by kernel_rfl) (fun _ _ _ _ h => h) rfl ?_; apply Exists.intro; refine ⟨fun v1 hv1 => ?_, ?_⟩; (· (go_simp; rfl)); simp only [Act.put, List.setIfInBounds_toArray, List.set_cons_zero, List.set_cons_succ]
                        refine anyR_done (by kernel_rfl) (fun U9 hU9 => ?_)
                        have M9 : Later wr U9 := M4.trans (hU0.trans hU9)
                        go_wp2_with fail
                        go_ret
                        exact ⟨by rw [HV.out]; (show Ending.returned (.string (sa ++ c.is ++ ⟨#[58]⟩ ++ dd ++ se)) = _); simp only [ByteArray.append_assoc]; rfl, M9⟩
                      · have HV : Hid (plD c s ends a = sa ++ (c.is ++ cln ++ decB nn) ++ s.extract e s.size) := by
                          (show _ = _)
                          rw [hv, hcP.out, if_neg (by omega), Int.toNat_natCast]
                        have t7 : ((nn : Int) == (p : Int)) = false := by rw [beq_eq_false_iff_ne]; omega
                        clear hv h0 hze
                        go_upto_region 15 with fail
                        clear t4 t5 t6 t7
                        refine anyR_begin (R := Later) Later.pre Later.drew 10 rfl (by kernel_rfl) (fun U0 hU0 => ?_)
                        refine anyR_val Later.pre 0 rfl (by kernel_rfl) (by kernel_rfl) (by kernel_rfl) (fun _ _ _ _ h => h) rfl ?_; apply Exists.intro; refine ⟨fun v1 hv1 => ?_, ?_⟩; (· (go_simp; rfl)); simp only [Act.put, List.setIfInBounds_toArray, List.set_cons_zero, List.set_cons_succ]
                        refine anyR_val Later.pre 1 rfl (by kernel_rfl) (by kernel_rfl) (by kernel_rfl) (fun _ _ _ _ h => h) rfl ⟨.string (sa ++ c.is ++ ⟨#[58]⟩), fun v1 hv1 => (by first | (go_simp; done) | (go_simp; omega)), ?_⟩; simp only [Act.put, List.setIfInBounds_toArray, List.set_cons_zero, List.set_cons_succ]
                        refine anyR_val Later.pre 2 rfl (by kernel_rfl) (by kernel_rfl) (by kernel_rfl) (fun _ _ _ _ h => h) rfl ?_; apply Exists.intro; refine ⟨fun v1 hv1 => ?_, ?_⟩; (· (go_simp; rfl)); simp only [Act.put, List.setIfInBounds_toArray, List.set_cons_zero, List.set_cons_succ]
                        refine anyR_take Later.pre 3 (.string (decB nn)) rfl (by kernel_rfl) (by kernel_rfl) (by kernel_rfl) (fun _ _ _ h => h) rfl (fun u hu => goes_call 18 #[.int .i64 ((nn : Nat) : Int)] (by go_simp) (rdigits_any nn (by omega) u)) ?_
                        simp only [Act.put, List.setIfInBounds_toArray, List.set_cons_zero, List.set_cons_succ]
                        have hds := decB_size nn (by omega)
                        generalize decB nn = dd at *
                        refine anyR_val Later.pre 4 rfl (by kernel_rfl) (by kernel_rfl) (by kernel_rfl) (fun _ _ _ _ h => h) rfl ⟨.string (sa ++ c.is ++ ⟨#[58]⟩ ++ dd), fun v1 hv1 => (by first | (go_simp; done) | (go_simp; omega)), ?_⟩; simp only [Act.put, List.setIfInBounds_toArray, List.set_cons_zero, List.set_cons_succ]
                        refine anyR_val Later.pre 5 rfl (by kernel_rfl) (by kernel_rfl) (by kernel_rfl) (fun _ _ _ _ h => h) rfl ?_; apply Exists.intro; refine ⟨fun v1 hv1 => ?_, ?_⟩; (· (go_simp; rfl)); simp only [Act.put, List.setIfInBounds_toArray, List.set_cons_zero, List.set_cons_succ]
                        refine anyR_val Later.pre 6 rfl (by kernel_rfl) (by kernel_rfl) (by kernel_rfl) (fun _ _ _ _ h => h) rfl ?_; apply Exists.intro; refine ⟨fun v1 hv1 => ?_, ?_⟩; (· (go_simp; rfl)); simp only [Act.put, List.setIfInBounds_toArray, List.set_cons_zero, List.set_cons_succ]
                        refine anyR_val Later.pre 7 rfl (by kernel_rfl) (by kernel_rfl) (by kernel_rfl) (fun _ _ _ _ h => h) rfl ⟨.string (s.extract e s.size), fun v1 hv1 => (by first | (go_simp; done) | (go_simp; omega)), ?_⟩; simp only [Act.put, List.setIfInBounds_toArray, List.set_cons_zero, List.set_cons_succ]
                        generalize s.extract e s.size = se at *
                        refine anyR_val Later.pre 8 rfl (by kernel_rfl) (by kernel_rfl) (by kernel_rfl) (fun _ _ _ _ h => h) rfl ⟨.string (sa ++ c.is ++ ⟨#[58]⟩ ++ dd ++ se), fun v1 hv1 => (by first | (go_simp; done) | (go_simp; omega)), ?_⟩; simp only [Act.put, List.setIfInBounds_toArray, List.set_cons_zero, List.set_cons_succ]
                        refine anyR_val Later.pre 9 rfl (by kernel_rfl) (by kernel_rfl) (by kernel_rfl) (fun _ _ _ _ h => h) rfl ?_; apply Exists.intro; refine ⟨fun v1 hv1 => ?_, ?_⟩; (· (go_simp; rfl)); simp only [Act.put, List.setIfInBounds_toArray, List.set_cons_zero, List.set_cons_succ]
                        refine anyR_done (by kernel_rfl) (fun U9 hU9 => ?_)
                        have M9 : Later wr U9 := M4.trans (hU0.trans hU9)
                        go_wp2_with fail
                        go_ret
                        exact ⟨by rw [HV.out]; (show Ending.returned (.string (sa ++ c.is ++ ⟨#[58]⟩ ++ dd ++ se)) = _); simp only [ByteArray.append_assoc]; rfl, M9⟩
                    · have HV := hide (P2 (fun n' hn => by cases hn; exact absurd rfl hze))
                      have t6 : ((z : Int) != (e : Int)) = true := by simp; omega
                      clear P1 P2 h0 hze
                      go_wp2_with fail
                      go_ret
                      exact ⟨by rw [HV.out]; rfl, M4⟩
              · have HV := hide (HN2.out hk3 hcl)
                have t4 : ((((s[k]'hks).toNat : Nat) : Int) != 58) = true := by rw [hbg]; simp [hcl]
                clear HP2 HN2 hbg hcl
                go_wp2_with fail
                go_ret
                exact ⟨by rw [HV.out]; rfl, M4⟩
        · have HV := hide (HNO.out _ rfl (fun x' k' hx' hw _ => by cases hx'; exact absurd hw hx))
          have t1 : (wat4 x 0 != h) = true := by simp [hx]
          generalize wat4 x 0 = ad at *
          clear hx
          go_wp2_with fail
          go_ret
          exact ⟨by rw [HV.out]; rfl, L3⟩
    · have hlt1 : ¬ (e : Int) < (s.size : Int) := by omega
      have HEN : Hid (e = s.size ∨ dgt (bAt s e) = false) := .inl (by omega)
      have HE : Hid (a + endP ends (s.extract a s.size) = e) := by
        (show _ = _)
        rw [endP_no (fun j hj => by rw [ByteArray.size_extract] at hj; rw [bAt_from s a j (by omega)]; exact HN.out _ (by omega) (by omega)), ByteArray.size_extract]
        omega
      clear HN HSG HED
      go_upto_region 4 with fail
      have hG := conv_G wr s (by omega)
      have hcv := Lib.run_convert_string_bytes wr 9 23 5 s Tryz.underlying9 Tryz.underlying23 Tryz.underlying5
      have lc := conv_later wr 5 s
      have hR := hG.rd
      generalize Lib.bytesWorld wr 5 s = w2 at *
      generalize grownCap wr s.size 0 5 = gcp at *
      have HAD := hide (rAddress_any wr.heap.size 0 gcp (nmsB s) (nmsB_by s) a w2 (by rw [nmsB_len]; exact hR) (by rw [nmsB_len]; omega) (by rw [nmsB_len]; omega))
      rw [nmsB_len] at HAD
      clear hG hR
      generalize wr.heap.size = gq at *
      have HNO : Hid (∀ o, rowF (nmsB s) tDot 4 0 a = o → (∀ x k, o = some (x, k) → wat4 x 0 = h → k ≤ e → k < e ∧ bAt s k ≠ 58) → plD c s ends a = s) := fun o ho hn => plD_same (by omega) HE.out (pl_none hh hcH.out (by omega) (by omega) HEN.out (fun x k hx => hn x k (ho ▸ hx)))
      have HBA : Hid (∀ x, rowF (nmsB s) tDot 4 0 a = some (x, e) → wat4 x 0 = h → plD c s ends a = s.extract 0 a ++ c.is ++ s.extract e s.size) := fun x hx hw => by
        unfold plD
        rw [HE.out, pl_bare hcH.out (by omega) (by omega) hx hw]
      have HPO : Hid (∀ x k, rowF (nmsB s) tDot 4 0 a = some (x, k) → wat4 x 0 = h → k < e → bAt s k = 58 → ((∀ n, numD (nmsB s) (k + 1) 65535 = some (n, e) → n ≠ 0 → (1 ≤ n ∧ n ≤ 65535) ∧ plD c s ends a = s.extract 0 a ++ (c.is ++ cln ++ decB (if n = c.port then c.np else n).toNat) ++ s.extract e s.size) ∧ ((∀ n, numD (nmsB s) (k + 1) 65535 = some (n, e) → n = 0) → plD c s ends a = s))) := fun x k hx hw hk hcl => by
        have hpl := pl_port hcH.out (by omega) (by omega) hx hw hk hcl
        obtain ⟨n1, n2⟩ := pr_num (by omega) HEN.out hk
        refine ⟨fun n hn h0 => ?_, fun hn => ?_⟩
        · refine ⟨prV_rng _ (n1 n hn h0), ?_⟩
          rw [n1 n hn h0] at hpl
          unfold plD
          rw [HE.out, hpl]
        · refine plD_same (by omega) HE.out ?_
          cases hpv : prV (s.extract (k + 1) e) with
          | none => rw [hpv] at hpl; exact hpl
          | some p => have := n2 p hpv; exact absurd (hn p this.1) this.2
      have HIN : Hid (∀ x k, rowF (nmsB s) tDot 4 0 a = some (x, k) → a ≤ k ∧ k ≤ s.size) := fun x k hx => by
        obtain ⟨_, g2, g3, _⟩ := ad_fwd (nmsB_by s) (by rw [nmsB_len]; omega) hx
        rw [nmsB_len] at g2
        exact ⟨by omega, g2⟩
      generalize hro : rowF (nmsB s) tDot 4 0 a = ro at *
      clear hro
      go_wp2_with fail
      refine HAD.out.mono ?_
      rintro e' w3 ⟨l3, hq⟩
      clear hcv HAD
      have L3 : Later wr w3 := lc.trans l3
      rcases hq with ⟨rfl, rfl⟩ | ⟨x, k, rfl, rfl⟩
      · have HV := hide (HNO.out none rfl (fun x k hx => by cases hx))
        go_wp2_with fail
        go_ret
        exact ⟨by rw [HV.out]; rfl, L3⟩
      obtain ⟨hk1, hk2⟩ := HIN.out x k rfl
      by_cases hx : wat4 x 0 = h
      · have t1 : (wat4 x 0 != h) = false := by simp [hx]
        by_cases hke : e < k
        · have t2 : (e : Int) < (k : Int) := by omega
          have HV := hide (HNO.out _ rfl (fun x' k' hx' _ hk' => by cases hx'; omega))
          generalize wat4 x 0 = ad at *
          clear hx
          go_wp2_with fail
          go_ret
          exact ⟨by rw [HV.out]; rfl, L3⟩
        · have t2 : ¬ (e : Int) < (k : Int) := by omega
          have HB2 : Hid (k = e → plD c s ends a = s.extract 0 a ++ c.is ++ s.extract e s.size) := fun hk => HBA.out x (by rw [hk]) hx
          have HP2 : Hid (k < e → bAt s k = 58 → _) := fun hk hcl => HPO.out x k rfl hx hk hcl
          have HN2 : Hid (k < e → bAt s k ≠ 58 → plD c s ends a = s) := fun hk hcl => HNO.out _ rfl (fun x' k' hx' _ _ => by cases hx'; exact ⟨hk, hcl⟩)
          generalize wat4 x 0 = ad at *
          clear hx HBA HPO HNO HIN
          go_upto_region 7 with fail
          clear t1 t2
          refine anyR_begin (R := Later) Later.pre Later.drew 7 rfl (by kernel_rfl) (fun V0 hV0 => ?_)
          refine anyR_val Later.pre 0 rfl (by kernel_rfl) (by kernel_rfl) (by kernel_rfl) (fun _ _ _ _ h => h) rfl ?_; apply Exists.intro; refine ⟨fun v1 hv1 => ?_, ?_⟩; (· (go_simp; rfl)); simp only [Act.put, List.setIfInBounds_toArray, List.set_cons_zero, List.set_cons_succ]
          refine anyR_val Later.pre 1 rfl (by kernel_rfl) (by kernel_rfl) (by kernel_rfl) (fun _ _ _ _ h => h) rfl ?_; apply Exists.intro; refine ⟨fun v1 hv1 => ?_, ?_⟩; (· (go_simp; rfl)); simp only [Act.put, List.setIfInBounds_toArray, List.set_cons_zero, List.set_cons_succ]
          refine anyR_val Later.pre 2 rfl (by kernel_rfl) (by kernel_rfl) (by kernel_rfl) (fun _ _ _ _ h => h) rfl ⟨.string (s.extract 0 a), fun v1 hv1 => (by first | (go_simp; done) | (go_simp; omega)), ?_⟩; simp only [Act.put, List.setIfInBounds_toArray, List.set_cons_zero, List.set_cons_succ]
          refine anyR_val Later.pre 3 rfl (by kernel_rfl) (by kernel_rfl) (by kernel_rfl) (fun _ _ _ _ h => h) rfl ?_; apply Exists.intro; refine ⟨fun v1 hv1 => ?_, ?_⟩; (· (go_simp; rfl)); simp only [Act.put, List.setIfInBounds_toArray, List.set_cons_zero, List.set_cons_succ]
          refine anyR_take Later.pre 4 (.string (adB t)) rfl (by kernel_rfl) (by kernel_rfl) (by kernel_rfl) (fun _ _ _ h => h) rfl (fun u hu => goes_call 29 #[.int .u32 t, .string ⟨#[46]⟩] (by go_simp) (tdotted_any t ht u)) ?_
          simp only [Act.put, List.setIfInBounds_toArray, List.set_cons_zero, List.set_cons_succ]
          have hs1 : (s.extract 0 a).size ≤ 100000 := by rw [ByteArray.size_extract]; omega
          have hs2 := adB_size t ht
          rw [← hcI.out] at hs2
          rw [← hcI.out]
          generalize s.extract 0 a = sa at *
          refine anyR_val Later.pre 5 rfl (by kernel_rfl) (by kernel_rfl) (by kernel_rfl) (fun _ _ _ _ h => h) rfl ⟨.string (sa ++ c.is), fun v1 hv1 => (by first | (go_simp; done) | (go_simp; omega)), ?_⟩; simp only [Act.put, List.setIfInBounds_toArray, List.set_cons_zero, List.set_cons_succ]
          refine anyR_val Later.pre 6 rfl (by kernel_rfl) (by kernel_rfl) (by kernel_rfl) (fun _ _ _ _ h => h) rfl ?_; apply Exists.intro; refine ⟨fun v1 hv1 => ?_, ?_⟩; (· (go_simp; rfl)); simp only [Act.put, List.setIfInBounds_toArray, List.set_cons_zero, List.set_cons_succ]
          refine anyR_done (by kernel_rfl) (fun V9 hV9 => ?_)
          have L9 : Later wr V9 := L3.trans (hV0.trans hV9)
          have hs3 : (s.extract e s.size).size ≤ 100000 := by rw [ByteArray.size_extract]; omega
          have e58 : ByteArray.size ⟨#[58]⟩ = 1 := rfl
          have he1 : (e : Int) ≤ (s.size : Int) := by omega
          by_cases hkq : k = e
          · have t3 : ((k : Int) == (e : Int)) = true := by simp [hkq]
            have HV := hide (HB2.out hkq)
            clear hkq HB2 HP2 HN2
            go_wp2_with fail
            go_ret
            exact ⟨by rw [HV.out]; rfl, L9⟩
          · have t3 : ((k : Int) == (e : Int)) = false := by rw [beq_eq_false_iff_ne]; omega
            have hk3 : k < e := by omega
            have hks : k < s.size := by omega
            have hbg := bAt_get s k hks
            clear HB2
            go_upto_region 10 with fail
            clear t3
            have hG := conv_G V9 s (by omega)
            have hcv := Lib.run_convert_string_bytes V9 9 23 5 s Tryz.underlying9 Tryz.underlying23 Tryz.underlying5
            have ld := conv_later V9 5 s
            have hR := hG.rd
            generalize Lib.bytesWorld V9 5 s = w4 at *
            generalize grownCap V9 s.size 0 5 = gcp2 at *
            have HNU := hide (rnumber_any V9.heap.size 0 gcp2 w4.heap.size (nmsB s) (nmsB_by s) (k + 1) 65535 w4 (by rw [nmsB_len]; exact hR) (by rw [nmsB_len]; omega) (by rw [nmsB_len]; omega) (by omega))
            rw [nmsB_len] at HNU
            have q1 : ((k + 1 : Nat) : Int) = (k : Int) + 1 := by omega
            rw [q1] at HNU
            clear hG hR q1
            have M4 : Later wr w4 := L9.trans ld
            generalize numD (nmsB s) (k + 1) 65535 = nd at *
            generalize V9.heap.size = gv at *
            go_wp2_with fail
            refine HNU.out.mono ?_
            rintro e' w5 ⟨rfl, hw5⟩
            have hw6 := hw5.symm
            subst hw6
            clear hcv HNU
            by_cases hcl : bAt s k = 58
            · have t4 : ((((s[k]'hks).toNat : Nat) : Int) != 58) = false := by rw [hbg, hcl]; rfl
              obtain ⟨P1, P2⟩ := HP2.out hk3 hcl
              clear HP2 HN2 hbg hcl
              cases nd with
              | none =>
                have HV := hide (P2 (fun n hn => by cases hn))
                clear P1 P2
                simp only [Option.map_none, Option.getD_none, Option.isSome_none]
                go_wp2_with fail
                go_ret
                exact ⟨by rw [HV.out]; rfl, M4⟩
              | some nz =>
                obtain ⟨n, z⟩ := nz
                simp only [Option.map_some, Option.getD_some, Option.isSome_some]
                by_cases h0 : n = 0
                · have HV := hide (P2 (fun n' hn => by cases hn; exact h0))
                  have t5 : (n == 0) = true := by simp [h0]
                  clear P1 P2 h0
                  go_wp2_with fail
                  go_ret
                  exact ⟨by rw [HV.out]; rfl, M4⟩
                · have t5 : (n == 0) = false := by rw [beq_eq_false_iff_ne]; exact h0
                  by_cases hze : z = e
                  · obtain ⟨hnr, hv⟩ := P1 n (by rw [hze]) h0
                    have t6 : ((z : Int) != (e : Int)) = false := by simp [hze]
                    clear P1 P2
                    obtain ⟨nn, rfl⟩ : ∃ k : Nat, n = (k : Int) := ⟨n.toNat, by omega⟩
                    by_cases hnp : nn = p
                    · have HV : Hid (plD c s ends a = sa ++ (c.is ++ cln ++ decB q) ++ s.extract e s.size) := by
                        (show _ = _)
                        rw [hv, hcP.out, if_pos (by rw [hnp]), hcN.out, Int.toNat_natCast]
                      have t7 : ((nn : Int) == (p : Int)) = true := by simp [hnp]
                      clear hv h0 hze
                      go_upto_region 15 with fail
                      clear t4 t5 t6 t7
                      refine anyR_begin (R := Later) Later.pre Later.drew 10 rfl (by kernel_rfl) (fun U0 hU0 => ?_)
                      refine anyR_val Later.pre 0 rfl (by kernel_rfl) (by kernel_rfl) (by kernel_rfl) (fun _ _ _ _ h => h) rfl ?_; apply Exists.intro; refine ⟨fun v1 hv1 => ?_, ?_⟩; (· (go_simp; rfl)); simp only [Act.put, List.setIfInBounds_toArray, List.set_cons_zero, List.set_cons_succ]
                      refine anyR_val Later.pre 1 rfl (by kernel_rfl) (by kernel_rfl) (by kernel_rfl) (fun _ _ _ _ h => h) rfl ⟨.string (sa ++ c.is ++ ⟨#[58]⟩), fun v1 hv1 => (by first | (go_simp; done) | (go_simp; omega)), ?_⟩; simp only [Act.put, List.setIfInBounds_toArray, List.set_cons_zero, List.set_cons_succ]
                      refine anyR_val Later.pre 2 rfl (by kernel_rfl) (by kernel_rfl) (by kernel_rfl) (fun _ _ _ _ h => h) rfl ?_; apply Exists.intro; refine ⟨fun v1 hv1 => ?_, ?_⟩; (· (go_simp; rfl)); simp only [Act.put, List.setIfInBounds_toArray, List.set_cons_zero, List.set_cons_succ]
                      refine anyR_take Later.pre 3 (.string (decB q)) rfl (by kernel_rfl) (by kernel_rfl) (by kernel_rfl) (fun _ _ _ h => h) rfl (fun u hu => goes_call 18 #[.int .i64 ((q : Nat) : Int)] (by go_simp) (rdigits_any q (by omega) u)) ?_
                      simp only [Act.put, List.setIfInBounds_toArray, List.set_cons_zero, List.set_cons_succ]
                      have hds := decB_size q (by omega)
                      generalize decB q = dd at *
                      refine anyR_val Later.pre 4 rfl (by kernel_rfl) (by kernel_rfl) (by kernel_rfl) (fun _ _ _ _ h => h) rfl ⟨.string (sa ++ c.is ++ ⟨#[58]⟩ ++ dd), fun v1 hv1 => (by first | (go_simp; done) | (go_simp; omega)), ?_⟩; simp only [Act.put, List.setIfInBounds_toArray, List.set_cons_zero, List.set_cons_succ]
                      refine anyR_val Later.pre 5 rfl (by kernel_rfl) (by kernel_rfl) (by kernel_rfl) (fun _ _ _ _ h => h) rfl ?_; apply Exists.intro; refine ⟨fun v1 hv1 => ?_, ?_⟩; (· (go_simp; rfl)); simp only [Act.put, List.setIfInBounds_toArray, List.set_cons_zero, List.set_cons_succ]
                      refine anyR_val Later.pre 6 rfl (by kernel_rfl) (by kernel_rfl) (by kernel_rfl) (fun _ _ _ _ h => h) rfl ?_; apply Exists.intro; refine ⟨fun v1 hv1 => ?_, ?_⟩; (· (go_simp; rfl)); simp only [Act.put, List.setIfInBounds_toArray, List.set_cons_zero, List.set_cons_succ]
                      refine anyR_val Later.pre 7 rfl (by kernel_rfl) (by kernel_rfl) (by kernel_rfl) (fun _ _ _ _ h => h) rfl ⟨.string (s.extract e s.size), fun v1 hv1 => (by first | (go_simp; done) | (go_simp; omega)), ?_⟩; simp only [Act.put, List.setIfInBounds_toArray, List.set_cons_zero, List.set_cons_succ]
                      generalize s.extract e s.size = se at *
                      refine anyR_val Later.pre 8 rfl (by kernel_rfl) (by kernel_rfl) (by kernel_rfl) (fun _ _ _ _ h => h) rfl ⟨.string (sa ++ c.is ++ ⟨#[58]⟩ ++ dd ++ se), fun v1 hv1 => (by first | (go_simp; done) | (go_simp; omega)), ?_⟩; simp only [Act.put, List.setIfInBounds_toArray, List.set_cons_zero, List.set_cons_succ]
                      refine anyR_val Later.pre 9 rfl (by kernel_rfl) (by kernel_rfl) (by kernel_rfl) (fun _ _ _ _ h => h) rfl ?_; apply Exists.intro; refine ⟨fun v1 hv1 => ?_, ?_⟩; (· (go_simp; rfl)); simp only [Act.put, List.setIfInBounds_toArray, List.set_cons_zero, List.set_cons_succ]
                      refine anyR_done (by kernel_rfl) (fun U9 hU9 => ?_)
                      have M9 : Later wr U9 := M4.trans (hU0.trans hU9)
                      go_wp2_with fail
                      go_ret
                      exact ⟨by rw [HV.out]; (show Ending.returned (.string (sa ++ c.is ++ ⟨#[58]⟩ ++ dd ++ se)) = _); simp only [ByteArray.append_assoc]; rfl, M9⟩
                    · have HV : Hid (plD c s ends a = sa ++ (c.is ++ cln ++ decB nn) ++ s.extract e s.size) := by
                        (show _ = _)
                        rw [hv, hcP.out, if_neg (by omega), Int.toNat_natCast]
                      have t7 : ((nn : Int) == (p : Int)) = false := by rw [beq_eq_false_iff_ne]; omega
                      clear hv h0 hze
                      go_upto_region 15 with fail
                      clear t4 t5 t6 t7
                      refine anyR_begin (R := Later) Later.pre Later.drew 10 rfl (by kernel_rfl) (fun U0 hU0 => ?_)
                      refine anyR_val Later.pre 0 rfl (by kernel_rfl) (by kernel_rfl) (by kernel_rfl) (fun _ _ _ _ h => h) rfl ?_; apply Exists.intro; refine ⟨fun v1 hv1 => ?_, ?_⟩; (· (go_simp; rfl)); simp only [Act.put, List.setIfInBounds_toArray, List.set_cons_zero, List.set_cons_succ]
                      refine anyR_val Later.pre 1 rfl (by kernel_rfl) (by kernel_rfl) (by kernel_rfl) (fun _ _ _ _ h => h) rfl ⟨.string (sa ++ c.is ++ ⟨#[58]⟩), fun v1 hv1 => (by first | (go_simp; done) | (go_simp; omega)), ?_⟩; simp only [Act.put, List.setIfInBounds_toArray, List.set_cons_zero, List.set_cons_succ]
                      refine anyR_val Later.pre 2 rfl (by kernel_rfl) (by kernel_rfl) (by kernel_rfl) (fun _ _ _ _ h => h) rfl ?_; apply Exists.intro; refine ⟨fun v1 hv1 => ?_, ?_⟩; (· (go_simp; rfl)); simp only [Act.put, List.setIfInBounds_toArray, List.set_cons_zero, List.set_cons_succ]
                      refine anyR_take Later.pre 3 (.string (decB nn)) rfl (by kernel_rfl) (by kernel_rfl) (by kernel_rfl) (fun _ _ _ h => h) rfl (fun u hu => goes_call 18 #[.int .i64 ((nn : Nat) : Int)] (by go_simp) (rdigits_any nn (by omega) u)) ?_
                      simp only [Act.put, List.setIfInBounds_toArray, List.set_cons_zero, List.set_cons_succ]
                      have hds := decB_size nn (by omega)
                      generalize decB nn = dd at *
                      refine anyR_val Later.pre 4 rfl (by kernel_rfl) (by kernel_rfl) (by kernel_rfl) (fun _ _ _ _ h => h) rfl ⟨.string (sa ++ c.is ++ ⟨#[58]⟩ ++ dd), fun v1 hv1 => (by first | (go_simp; done) | (go_simp; omega)), ?_⟩; simp only [Act.put, List.setIfInBounds_toArray, List.set_cons_zero, List.set_cons_succ]
                      refine anyR_val Later.pre 5 rfl (by kernel_rfl) (by kernel_rfl) (by kernel_rfl) (fun _ _ _ _ h => h) rfl ?_; apply Exists.intro; refine ⟨fun v1 hv1 => ?_, ?_⟩; (· (go_simp; rfl)); simp only [Act.put, List.setIfInBounds_toArray, List.set_cons_zero, List.set_cons_succ]
                      refine anyR_val Later.pre 6 rfl (by kernel_rfl) (by kernel_rfl) (by kernel_rfl) (fun _ _ _ _ h => h) rfl ?_; apply Exists.intro; refine ⟨fun v1 hv1 => ?_, ?_⟩; (· (go_simp; rfl)); simp only [Act.put, List.setIfInBounds_toArray, List.set_cons_zero, List.set_cons_succ]
                      refine anyR_val Later.pre 7 rfl (by kernel_rfl) (by kernel_rfl) (by kernel_rfl) (fun _ _ _ _ h => h) rfl ⟨.string (s.extract e s.size), fun v1 hv1 => (by first | (go_simp; done) | (go_simp; omega)), ?_⟩; simp only [Act.put, List.setIfInBounds_toArray, List.set_cons_zero, List.set_cons_succ]
                      generalize s.extract e s.size = se at *
                      refine anyR_val Later.pre 8 rfl (by kernel_rfl) (by kernel_rfl) (by kernel_rfl) (fun _ _ _ _ h => h) rfl ⟨.string (sa ++ c.is ++ ⟨#[58]⟩ ++ dd ++ se), fun v1 hv1 => (by first | (go_simp; done) | (go_simp; omega)), ?_⟩; simp only [Act.put, List.setIfInBounds_toArray, List.set_cons_zero, List.set_cons_succ]
                      refine anyR_val Later.pre 9 rfl (by kernel_rfl) (by kernel_rfl) (by kernel_rfl) (fun _ _ _ _ h => h) rfl ?_; apply Exists.intro; refine ⟨fun v1 hv1 => ?_, ?_⟩; (· (go_simp; rfl)); simp only [Act.put, List.setIfInBounds_toArray, List.set_cons_zero, List.set_cons_succ]
                      refine anyR_done (by kernel_rfl) (fun U9 hU9 => ?_)
                      have M9 : Later wr U9 := M4.trans (hU0.trans hU9)
                      go_wp2_with fail
                      go_ret
                      exact ⟨by rw [HV.out]; (show Ending.returned (.string (sa ++ c.is ++ ⟨#[58]⟩ ++ dd ++ se)) = _); simp only [ByteArray.append_assoc]; rfl, M9⟩
                  · have HV := hide (P2 (fun n' hn => by cases hn; exact absurd rfl hze))
                    have t6 : ((z : Int) != (e : Int)) = true := by simp; omega
                    clear P1 P2 h0 hze
                    go_wp2_with fail
                    go_ret
                    exact ⟨by rw [HV.out]; rfl, M4⟩
            · have HV := hide (HN2.out hk3 hcl)
              have t4 : ((((s[k]'hks).toNat : Nat) : Int) != 58) = true := by rw [hbg]; simp [hcl]
              clear HP2 HN2 hbg hcl
              go_wp2_with fail
              go_ret
              exact ⟨by rw [HV.out]; rfl, M4⟩
      · have HV := hide (HNO.out _ rfl (fun x' k' hx' hw _ => by cases hx'; exact absurd hw hx))
        have t1 : (wat4 x 0 != h) = true := by simp [hx]
        generalize wat4 x 0 = ad at *
        clear hx
        go_wp2_with fail
        go_ret
        exact ⟨by rw [HV.out]; rfl, L3⟩
end Go.Proofs.YtibjgaelaijgpaaGreatDoor

/- The document's Ports. -/
namespace Go.Proofs.YtibjgaelaijgpaaGreatDoor
open Go.RowKit Go.Shelf
set_option maxRecDepth 100000
set_option linter.unusedVariables false
set_option linter.unusedSimpArgs false

/-- What a row of one's own holds. -/
theorem own_cellG {W : World} {base : Nat} {e : TypeId} {sa : Option Addr} {n cap : Nat} {xs : List Value} (h : W.ownsRow base e 1 (.slice sa n cap) n xs) (hn : 0 < xs.length) : ∃ g, sa = some ⟨g, 0, none⟩ ∧ ∀ j, j < xs.length → W.cell? ⟨g, j, none⟩ = xs[j]? := by
  obtain ⟨h1, ⟨e, h0⟩ | ⟨g, cap', cur, e, hg, hh, hl, hm, hs, hc⟩⟩ := h
  · cases e
    rw [h0] at h1
    omega
  · cases e
    refine ⟨g, rfl, fun j hj => ?_⟩
    rw [block_cell hh, ← hc, List.getElem?_take_of_lt (by rw [h1] at hj; omega)]
    simp
theorem eqS_empty {s h : ByteArray} (hs : s.size = 0) : eqS s (cnB ++ h) = false := by
  cases hq : eqS s (cnB ++ h) with
  | false => rfl
  | true =>
    have := congrArg ByteArray.size (eqS_iff.1 hq)
    rw [ByteArray.size_append, show cnB.size = 9 from rfl] at this
    omega
theorem dlF_mem : ∀ (n : Nat) (s : ByteArray) (x : ByteArray × Bool), x ∈ dlF n s → x.1.size ≤ s.size
  | 0, s, x, h => by simp only [dlF, List.mem_singleton] at h; subst h; exact Nat.le_refl _
  | n + 1, s, x, h => by
    unfold dlF at h
    split at h
    · simp only [List.mem_singleton] at h; subst h; exact Nat.le_refl _
    · have hz := cut_size s crB
      rcases List.mem_cons.1 h with rfl | h
      · exact hz.1
      · have := dlF_mem n _ x h
        omega
end Go.Proofs.YtibjgaelaijgpaaGreatDoor

/- A body's lines, changed, the document's way: mathematics. -/
namespace Go.Proofs.YtibjgaelaijgpaaGreatDoor
open Go.RowKit Go.Shelf
set_option maxRecDepth 100000
set_option linter.unusedVariables false
set_option linter.unusedSimpArgs false

/-- What ends a line. -/
def enB (b : Bool) : ByteArray := if b = true then crB else ⟨#[]⟩
def dbL (c : Cg) (l : List (ByteArray × Bool)) : ByteArray := l.foldl (fun b x => b ++ (lnB c x.1 ++ enB x.2)) ⟨#[]⟩
theorem dbL_snoc (c : Cg) (l : List (ByteArray × Bool)) (x : ByteArray × Bool) : dbL c (l ++ [x]) = dbL c l ++ (lnB c x.1 ++ enB x.2) := by unfold dbL; simp
theorem lnB_empty (c : Cg) {s : ByteArray} (hs : s.size = 0) : lnB c s = s := by
  have hp : hpB s orB = false := by
    cases hq : hpB s orB with
    | false => rfl
    | true =>
      unfold hpB Lib.hasPrefix at hq
      rw [List.isPrefixOf_iff_prefix] at hq
      have := hq.length_le
      rw [← ba_len, ← ba_len, hs, show orB.size = 2 from rfl] at this
      omega
  unfold lnB
  rw [if_neg (by rw [eqS_empty hs]; simp), if_neg (by rw [hp]; simp), md_begin (fun h => by omega)]
  rfl
theorem db_same (c : Cg) : ∀ (n : Nat) (s : ByteArray), s.size ≤ n → ∀ acc, (dlB s).foldl (fun b x => b ++ (lnB c x.1 ++ enB x.2)) acc = (lnsB s).foldl (fun b x => b ++ (lnB c x.1 ++ x.2)) acc
  | n, s, hn, acc => by
    cases hf : cutF s crB with
    | false =>
      rw [dlB_no hf]
      by_cases h0 : s.size = 0
      · rw [lnsB_nil h0]
        have he : s = ⟨#[]⟩ := ba_ext (List.eq_nil_of_length_eq_zero (by rw [← ba_len]; exact h0))
        show acc ++ (lnB c s ++ enB false) = acc
        rw [lnB_empty c h0, he]
        show acc ++ (⟨#[]⟩ ++ ⟨#[]⟩) = acc
        rw [bapp_nil, bapp_nil]
      · obtain ⟨ha, hz⟩ := cut_no hf
        rw [lnsB_cons h0, ha, hz, lnsB_nil (s := ⟨#[]⟩) rfl, betw_no hf]
        rfl
    | true =>
      have h0 : s.size ≠ 0 := fun h0 => by rw [cut_empty h0 (by decide)] at hf; cases hf
      have hz := (cut_sizes s crB).2 h0 (by decide)
      rw [dlB_yes hf, lnsB_cons h0, betw_yes hf]
      cases n with
      | zero => omega
      | succ n =>
        simp only [List.foldl_cons]
        exact db_same c n (cutZ s crB) (by omega) _
theorem dbL_is (c : Cg) (s : ByteArray) : dbL c (dlB s) = bdB c s := db_same c _ s (Nat.le_refl _) _
/-- A line that ends in the host's address. -/
def orQ (l t : ByteArray) : Bool := decide (2 + t.size ≤ l.size) && (eqS (l.extract 0 2) orB && eqS (l.extract (l.size - t.size) l.size) t)
theorem ext_suf {l t : ByteArray} (h : t.size ≤ l.size) : eqS (l.extract (l.size - t.size) l.size) t = hsB l t := by
  unfold eqS hsB Lib.hasSuffix
  rw [ba_ext_list, Bool.eq_iff_iff, beq_iff_eq, List.isSuffixOf_iff_suffix, List.take_of_length_le (by rw [← ba_len]; exact Nat.le_refl _), List.suffix_iff_eq_drop, ← ba_len, ← ba_len]
  exact eq_comm
theorem ext_pre {l t : ByteArray} : eqS (l.extract 0 t.size) t = hpB l t := by
  unfold eqS hpB Lib.hasPrefix
  rw [ba_ext_list, List.drop_zero, Bool.eq_iff_iff, beq_iff_eq, List.isPrefixOf_iff_prefix, List.prefix_iff_eq_take, ← ba_len]
  exact eq_comm
theorem or_q (l h : ByteArray) : orQ l (omB ++ h) = true ↔ hpB l orB = true ∧ hsB l (omB ++ h) = true := by
  have hp : eqS (l.extract 0 2) orB = hpB l orB := ext_pre (t := orB)
  unfold orQ
  rw [Bool.and_eq_true, Bool.and_eq_true, decide_eq_true_eq, hp]
  constructor
  · rintro ⟨h1, h2, h3⟩
    rw [ext_suf (by omega)] at h3
    exact ⟨h2, h3⟩
  · rintro ⟨h1, h2⟩
    obtain ⟨t, ht⟩ := suf_app h2
    have hl : 2 + (omB ++ h).size ≤ l.size := by
      rw [← hp] at h1
      have h3 := congrArg (fun x : ByteArray => x.data.toList) (eqS_iff.1 h1)
      simp only [ba_ext_list, List.drop_zero] at h3
      rw [ht, ba_app, ba_app] at h3
      rw [ht, ByteArray.size_append (a := t)]
      have e : t.size = t.data.toList.length := ba_len t
      rw [e]
      generalize t.data.toList = tl at *
      match tl, h3 with
      | [], h3 => exact absurd h3 (by simp [omB, orB])
      | [x], h3 => exact absurd h3 (by simp [omB, orB])
      | x :: y :: r, _ => simp only [List.length_cons]; omega
    exact ⟨hl, h1, by rw [ext_suf (by omega)]; exact h2⟩
theorem or_v {l h : ByteArray} (hq : hsB l (omB ++ h) = true) : tsB l h = l.extract 0 (l.size - (omB ++ h).size) ++ omB := by
  have h1 := ts_join (suf_of hq)
  obtain ⟨t, rfl⟩ := suf_app hq
  have h2 : (tsB (t ++ (omB ++ h)) h).data.toList ++ h.data.toList = (t.data.toList ++ omB.data.toList) ++ h.data.toList := by
    rw [← ba_app, h1, ba_app, ba_app, List.append_assoc]
  have h3 := List.append_cancel_right h2
  apply ba_ext
  rw [h3, ba_app, ba_ext_list, List.drop_zero, ByteArray.size_append (a := t), Nat.add_sub_cancel, ba_app, ba_len, List.take_left]
/-- Where a line's port stands. -/
theorem md_ext {l a b : ByteArray} {p : Int} (h : mdO l = some (a, p, b)) : a = l.extract 0 a.size ∧ b = l.extract (l.size - b.size) l.size ∧ a.size ≤ l.size - b.size ∧ b.size ≤ l.size := by
  obtain ⟨hj, _, _⟩ := mdO_join h
  have hs := congrArg ByteArray.size hj
  rw [ByteArray.size_append, ByteArray.size_append] at hs
  refine ⟨?_, ?_, by omega, by omega⟩
  · apply ba_ext
    rw [ba_ext_list, List.drop_zero]
    conv => rhs; rw [← hj]
    rw [ba_app, ba_app, ba_len, List.append_assoc, List.take_left]
  · apply ba_ext
    rw [ba_ext_list, List.take_of_length_le (by rw [← ba_len]; exact Nat.le_refl _)]
    have e : l.size - b.size = (a ++ decB p.toNat).data.toList.length := by rw [← ba_len, ByteArray.size_append]; omega
    rw [e]
    conv => rhs; rw [← hj]
    rw [ba_app (a ++ _), List.drop_left]
/-- The media looked through. -/
theorem in_found {l : List (Int × Int)} {p : Int} {k : Nat} (hk : k < l.length) (hp : l[k].1 = p) (hn : ∀ j (hj : j < k), (l[j]'(by omega)).1 ≠ p) : inB l p = l[k].2 := by
  unfold inB
  have : l.find? (fun m => m.1 == p) = some l[k] := by
    rw [List.find?_eq_some_iff_getElem]
    exact ⟨by simp [hp], k, hk, rfl, fun j hj => by simp [hn j hj]⟩
  rw [this]
  rfl
theorem in_none {l : List (Int × Int)} {p : Int} (hn : ∀ j (hj : j < l.length), l[j].1 ≠ p) : inB l p = p := by
  unfold inB
  have : l.find? (fun m => m.1 == p) = none := by
    rw [List.find?_eq_none]
    intro x hx
    obtain ⟨j, hj, rfl⟩ := List.getElem_of_mem hx
    simpa using hn j hj
  rw [this]
  rfl
theorem ml_keep (c : Cg) {l a b : ByteArray} {p : Int} (h : mdO l = some (a, p, b)) (hi : inB c.media p = p) : mlB c l (some (a, p, b)) = l := by
  obtain ⟨hj, _, _⟩ := mdO_join h
  show a ++ decB (inB c.media p).toNat ++ b = l
  rw [hi, hj]
theorem ml_new (c : Cg) {l a b : ByteArray} {p q : Int} (h : mdO l = some (a, p, b)) (hi : inB c.media p = q) : mlB c l (some (a, p, b)) = l.extract 0 a.size ++ decB q.toNat ++ l.extract (l.size - b.size) l.size := by
  obtain ⟨h1, h2, _⟩ := md_ext h
  show a ++ decB (inB c.media p).toNat ++ b = _
  rw [hi, ← h1, ← h2]
end Go.Proofs.YtibjgaelaijgpaaGreatDoor

/- The walk of the document's body. -/
namespace Go.Proofs.YtibjgaelaijgpaaGreatDoor
open Go.RowKit Go.Shelf
set_option maxRecDepth 100000
set_option linter.unusedVariables false
set_option linter.unusedSimpArgs false

theorem dbL_size (c : Cg) (hc : c.wf) (k : Nat) : ∀ (n : Nat) (l : List (ByteArray × Bool)), l.length = n → (∀ x ∈ l, x.1.size ≤ k) → (dbL c l).size ≤ n * (2 * k + 2012)
  | 0, l, h, _ => by rw [List.eq_nil_of_length_eq_zero h]; exact Nat.zero_le _
  | n + 1, l, h, hx => by
    rcases List.eq_nil_or_concat l with rfl | ⟨l', x, e⟩
    · cases h
    rw [List.concat_eq_append] at e
    subst e
    have h1 := dbL_size c hc k n l' (by simpa using h) (fun y hy => hx y (List.mem_append_left _ hy))
    have h2 := lnB_size c hc x.1
    have h3 := hx x (List.mem_append_right _ (List.mem_singleton_self x))
    have h4 : (enB x.2).size ≤ 2 := by unfold enB; split <;> decide
    rw [dbL_snoc, ByteArray.size_append, ByteArray.size_append, Nat.succ_mul]
    omega
/-- Two more appended. -/
theorem app2U {W : World} {base : Nat} {v : Value} {xs : List Value} (ho : W.ownsRow base 5 1 v xs.length xs) (hl : xs.length ≤ 100000000) (hbW : base ≤ W.heap.size) (ty : TypeId) :
    ∃ a c W', (Builtin.append_ #[23, 23] ty #[v, .slice (some ⟨W.heap.size, 0, none⟩) 2 2]).run Tryz.prog (W.alloc (.cells #[.int .u8 13, .int .u8 10] 5)) = .ok (.slice a (xs.length + 2) c) W' ∧ W'.ownsRow base 5 1 (.slice a (xs.length + 2) c) (xs ++ [Value.int .u8 13, Value.int .u8 10]).length (xs ++ [Value.int .u8 13, Value.int .u8 10]) ∧ (W.alloc (.cells #[.int .u8 13, .int .u8 10] 5)).grownBy W' v.ownBlock := by
  obtain ⟨i, hi, hz, h1, h2⟩ := info_partsS info_u8
  have la := later_allocR W (.cells #[.int .u8 13, .int .u8 10] 5)
  have hn := heap_alloc_new W (.cells #[.int .u8 13, .int .u8 10] 5)
  obtain ⟨v', W', hrun, hrow, hg, _⟩ := run_append_own (P := Tryz.prog) (W.alloc (.cells #[.int .u8 13, .int .u8 10] 5)) base 23 ty 5 i _ 1 1 Tryz.underlying23 hi hz h1 h2 rfl (by decide) v xs.length xs (ownsS_ct ho (CTs.of la)) ⟨W.heap.size, 0, none⟩ 2 2 [.int .u8 13, .int .u8 10] rfl
    (fun j u hj => by
      rw [show (⟨W.heap.size, 0, none⟩ : Addr).add j = ⟨W.heap.size, j, none⟩ from by unfold Addr.add; split <;> simp_all, block_cell hn j]
      simpa using hj)
    (by intro u hu; simp at hu; rcases hu with rfl | rfl <;> rfl) (by unfold maxLen; omega) (by omega) (Nat.le_trans hbW la.size)
  obtain ⟨a, c, rfl⟩ := owns_form hrow
  exact ⟨a, c, W', hrun, by simpa using hrow, hg⟩
theorem appR_keep {W W1 W' : World} {base : Nat} {e : TypeId} {v : Value} {xs : List Value} (la : Later W W1) (ho : W.ownsRow base e 1 v xs.length xs) (hg : W1.grownBy W' v.ownBlock) (hb : base ≤ W.heap.size) : Below base W W' ∧ ∀ {e' : TypeId} {size : Nat} {v' : Value} {n : Nat} {ys : List Value}, e' ≠ e → W.ownsRow base e' size v' n ys → W'.ownsRow base e' size v' n ys := by
  have ho' := ownsS_ct ho (CTs.of la)
  refine ⟨(la.mono hb).trans ⟨hg.os, hg.tape, hg.output, hg.size, fun i hi => ?_⟩, fun hne h => keep_own ho' hg hne (ownsS_ct h (CTs.of la))⟩
  cases hh : W1.heap[i]? with
  | none => have := Array.getElem?_eq_none_iff.1 hh; have := la.size; omega
  | some o => exact keep_row ho' hg hh (.inr hi)

set_option maxRecDepth 100000 in
set_option maxHeartbeats 16000000 in
theorem rbody14_any (c : Cg) (h t : Int) (hh : 0 ≤ h ∧ h ≤ 4294967295) (ht : 0 ≤ t ∧ t ≤ 4294967295) (hc1 : c.host = adB h) (hc2 : c.is = adB t) (hc : c.wf) (mv sb : Value) (zb : List Int) (w : World) (hI : RdP2 w.heap.size w mv c.media) (hB : Rd w.heap.size w sb zb) (hy : Mt.By zb) (hz : zb.length ≤ 4096) :
    Calls Tryz.prog 14 #[sb, .int .u32 h, .int .u32 t, mv] w fun e w' => Later w w' ∧ ∃ v, e = .returned v ∧ w'.ownsRow w.heap.size 5 1 v (bdB c (strOfNums zb)).size (nvs (bdB c (strOfNums zb))) := by
  obtain ⟨ba, bcp, rfl, hbc1, hbc2⟩ := hB.slice
  obtain ⟨ma, mcp, rfl, hmc1, hmc2⟩ := hI.slice
  have HLN := hide (rlines_any _ zb w hB hy (by omega))
  have hss : (strOfNums zb).size ≤ 4096 := by rw [strOfNums_size]; exact hz
  have HDM : Hid (∀ x ∈ dlB (strOfNums zb), x.1.size ≤ 4096) := fun x hx => Nat.le_trans (dlF_mem _ _ x hx) hss
  have hdl : (dlB (strOfNums zb)).length ≤ 4097 := by have := dlF_len (strOfNums zb).size (strOfNums zb); unfold dlB; omega
  have HDB := hide (dbL_is c (strOfNums zb))
  generalize bdB c (strOfNums zb) = bd at *
  generalize dlB (strOfNums zb) = dl at *
  clear hss hB
  have HCO := hide (fun l W => rconn_any l h hh W)
  have HDH := hide (fun W => tdotted_any h hh W)
  have HDT := hide (fun W => tdotted_any t ht W)
  have hs1 := adB_size h hh
  have hs2 := adB_size t ht
  rw [← hc1] at hs1
  rw [← hc2] at hs2
  simp only [← hc1] at HCO HDH
  simp only [← hc2] at HDT
  have HC := hide hc
  have HI := hide hI
  clear hc1 hc2 hc hI hbc1 hbc2
  have e8 : ByteArray.size ⟨#[32, 73, 78, 32, 73, 80, 52, 32]⟩ = 8 := rfl
  have e9 : ByteArray.size ⟨#[99, 61, 73, 78, 32, 73, 80, 52, 32]⟩ = 9 := rfl
  go_enter Tryz.func14, Tryz.ntmps14
  go_upto_region 2 with fail
  go_wp2_with fail
  refine HLN.out.mono ?_
  rintro e w1 ⟨l1, v1, v2, rfl, hrow1, hrow2⟩
  clear HLN
  have L1 : Below w.heap.size w w1 := l1
  obtain ⟨la, lc, rfl⟩ := owns_form hrow1
  obtain ⟨ea, ec, rfl⟩ := owns_form hrow2
  have HS1 := hide hrow1
  have HE1 := hide hrow2
  clear hrow1 hrow2 l1
  go_upto_region 4 with fail
  go_loopw [9, 12] (fun ov iv wr => ∃ k : Nat, k ≤ dl.length ∧ iv = .int .i64 (k : Int) ∧ Below w.heap.size w wr ∧ (∃ v, ov = v ∧ Hid (wr.ownsRow w.heap.size 5 1 v (dbL c (dl.take k)).size (nvs (dbL c (dl.take k))))) ∧ Hid (wr.ownsRow w.heap.size 9 1 (.slice la dl.length lc) dl.length (lvS dl)) ∧ Hid (wr.ownsRow w.heap.size 4 1 (.slice ea dl.length ec) dl.length (lvE dl))) (fun _ iv _ => dl.length - (intOf iv).toNat)
  case atStart => exact ⟨0, by omega, rfl, L1, ⟨.slice none 0 0, rfl, hide ⟨rfl, .inl ⟨rfl, rfl⟩⟩⟩, HS1, HE1⟩
  case round =>
    clear HS1 HE1 L1
    obtain ⟨k, hk, rfl, M1, ⟨v, rfl, HO⟩, HS, HE⟩ := hrel
    obtain ⟨wo, hwo⟩ : ∃ wo, wo = wr := ⟨_, rfl⟩
    subst hwo
    have hls : (lvS dl).length = dl.length := by unfold lvS; simp
    have hle : (lvE dl).length = dl.length := by unfold lvE; simp
    obtain ⟨oa, oc, rfl⟩ := owns_form HO.out
    by_cases hlt : k < dl.length
    case neg =>
      have hnl : ¬ (k : Int) < (dl.length : Int) := by omega
      have hkk : dl.take k = dl := List.take_of_length_le (by omega)
      have HF : Hid (wo.ownsRow w.heap.size 5 1 (.slice oa (dbL c (dl.take k)).size oc) bd.size (nvs bd)) := by
        have := HO.out
        rw [hkk, HDB.out] at this
        rw [hkk, HDB.out]
        exact this
      clear hkk HO
      generalize (dbL c (dl.take k)).size = zz at *
      go_wp2_with fail
      go_ret
      exact ⟨M1, _, rfl, HF.out⟩
    have hlt' : (k : Int) < (dl.length : Int) := by omega
    have htk : dl.take (k + 1) = dl.take k ++ [dl[k]] := by rw [← List.take_append_getElem hlt]
    have HNX : Hid (dbL c (dl.take (k + 1)) = dbL c (dl.take k) ++ (lnB c dl[k].1 ++ enB dl[k].2)) := by (show _ = _); rw [htk, dbL_snoc]
    have hsz0 := dbL_size c HC.out 4096 (dl.take k).length (dl.take k) rfl (fun x hx => HDM.out x (List.mem_of_mem_take hx))
    have hsz : (dbL c (dl.take k)).size ≤ 4097 * 10204 := Nat.le_trans hsz0 (Nat.mul_le_mul_right _ (by rw [List.length_take]; omega))
    clear hsz0 htk
    have hlk := HDM.out dl[k] (List.getElem_mem hlt)
    obtain ⟨g0, hga0, hgc0⟩ := own_cellG HS.out (by rw [hls]; omega)
    subst hga0
    have kl : wo.cell? ⟨g0, k, none⟩ = some (.string dl[k].1) := by
      rw [hgc0 k (by rw [hls]; exact hlt)]
      unfold lvS
      rw [List.getElem?_map, List.getElem?_eq_getElem hlt]
      rfl
    have HKE : Hid (∀ W : World, W.ownsRow w.heap.size 4 1 (.slice ea dl.length ec) dl.length (lvE dl) → ∃ g, ea = some ⟨g, 0, none⟩ ∧ W.cell? ⟨g, k, none⟩ = some (.bool dl[k].2)) := fun W hW => by
      obtain ⟨g', e', hc'⟩ := own_cellG hW (by rw [hle]; omega)
      refine ⟨g', e', ?_⟩
      rw [hc' k (by rw [hle]; exact hlt)]
      unfold lvE
      rw [List.getElem?_map, List.getElem?_eq_getElem hlt]
      rfl
    clear hgc0
    generalize dl[k] = r at *
    obtain ⟨lk, en⟩ := r
    simp only at HNX hlk kl HKE
    generalize hacc : dbL c (dl.take k) = acc at *
    clear hacc
    go_upto_region 7 with fail
    clear kl
    go_wp2_with fail
    refine (HDH.out wo).mono ?_
    rintro e w2 ⟨rfl, l2⟩
    go_upto_region 8 with fail
    generalize hta : (⟨#[32, 73, 78, 32, 73, 80, 52, 32]⟩ ++ c.host : ByteArray) = ta at *
    have HTA : Hid (omB ++ c.host = ta) := hta
    have htz : ta.size ≤ 32 := by rw [← hta, ByteArray.size_append, e8]; omega
    clear hta
    have hlw2 : Later wo w2 := l2
    clear l2
    go_wp2_with fail
    refine (HCO.out lk w2).mono ?_
    rintro e w3 ⟨rfl, l3⟩
    have L3 : Later wo w3 := hlw2.trans l3
    clear hlw2 l3
    have HLN : Hid (lnB c lk = if eqS lk (cnB ++ c.host) = true then cnB ++ c.is else if hpB lk orB = true ∧ hsB lk (omB ++ c.host) = true then tsB lk c.host ++ c.is else mlB c lk (mdO lk)) := rfl
    have HOQ : Hid (orQ lk ta = true ↔ hpB lk orB = true ∧ hsB lk (omB ++ c.host) = true) := by (show _ ↔ _); rw [← HTA.out]; exact or_q lk c.host
    generalize eqS lk (cnB ++ c.host) = b0 at *
    go_upto_if 40 with fail
    go_cut [13] (fun v wx => v = .string (lnB c lk) ∧ Later wo wx)
    case first =>
      cases b0 with
      | true =>
        have HV : Hid (lnB c lk = cnB ++ c.is) := by (show _ = _); rw [HLN.out, if_pos rfl]
        go_wp2_with fail
        refine (HDT.out w3).mono ?_
        rintro e w4 ⟨rfl, l4⟩
        go_wp2_with fail
        go_meet
        case rel => exact ⟨by rw [HV.out]; rfl, L3.trans l4⟩
      | false =>
        replace HLN : Hid (lnB c lk = if hpB lk orB = true ∧ hsB lk (omB ++ c.host) = true then tsB lk c.host ++ c.is else mlB c lk (mdO lk)) := by (show _ = _); rw [HLN.out, if_neg (by simp)]
        go_upto_region 10 with fail
        go_cut [65] (fun v wx => v = .bool (orQ lk ta) ∧ wx = w3)
        case first =>
          have HQV : Hid (orQ lk ta = (decide (2 + ta.size ≤ lk.size) && (eqS (lk.extract 0 2) orB && eqS (lk.extract (lk.size - ta.size) lk.size) ta))) := rfl
          by_cases hq1 : 2 + ta.size ≤ lk.size
          case neg =>
            have t1 : ¬ (2 : Int) + (ta.size : Int) ≤ (lk.size : Int) := by omega
            have HV : Hid (orQ lk ta = false) := by (show _ = _); rw [HQV.out, decide_eq_false hq1]; rfl
            go_wp2_with fail
            go_meet
            case rel => exact ⟨by rw [HV.out], by first | trivial | rfl⟩
          have t1 : (2 : Int) + (ta.size : Int) ≤ (lk.size : Int) := by omega
          have t1b : (2 : Int) ≤ (lk.size : Int) := by omega
          have q2 : ((lk.extract 0 2).toList == [111, 61]) = eqS (lk.extract 0 2) orB := by rw [← str_beq, ByteArray.toList_eq orB]; rfl
          cases hq2 : eqS (lk.extract 0 2) orB with
          | false =>
            rw [hq2] at q2
            have HV : Hid (orQ lk ta = false) := by (show _ = _); rw [HQV.out, hq2]; simp
            clear hq2
            go_wp2_with fail
            go_meet
            case rel => exact ⟨by rw [HV.out], by first | trivial | rfl⟩
          | true =>
            rw [hq2] at q2
            obtain ⟨dd, hdd⟩ : ∃ dd, lk.size = dd + ta.size := ⟨lk.size - ta.size, by omega⟩
            have hd2 : lk.size - ta.size = dd := by omega
            have hsub : (lk.size : Int) - (ta.size : Int) = (dd : Int) := by omega
            have hdl2 : (dd : Int) ≤ (lk.size : Int) := by omega
            have q3 := str_beq (lk.extract dd lk.size) ta
            rw [hd2, hq2, decide_eq_true hq1] at HQV
            clear hq2 hdd hd2
            generalize eqS (lk.extract dd lk.size) ta = b3 at *
            cases b3 with
            | false =>
              have HV : Hid (orQ lk ta = false) := by (show _ = _); rw [HQV.out]; rfl
              go_wp2_with fail
              go_meet
              case rel => exact ⟨by rw [HV.out], by first | trivial | rfl⟩
            | true =>
              have HV : Hid (orQ lk ta = true) := by (show _ = _); rw [HQV.out]; rfl
              go_wp2_with fail
              go_meet
              case rel => exact ⟨by rw [HV.out], by first | trivial | rfl⟩
        case rest =>
          obtain ⟨rfl, hw4⟩ := hcut
          subst hw4
          cases hoq : orQ lk ta with
          | true =>
            have hq0 := HOQ.out.1 hoq
            have hq1 : 2 + ta.size ≤ lk.size := by unfold orQ at hoq; simp only [Bool.and_eq_true, decide_eq_true_eq] at hoq; exact hoq.1
            have hov := or_v hq0.2
            rw [HTA.out] at hov
            obtain ⟨dd, hdd⟩ : ∃ dd, lk.size = dd + ta.size := ⟨lk.size - ta.size, by omega⟩
            have hd2 : lk.size - ta.size = dd := by omega
            rw [hd2] at hov
            have HV : Hid (lnB c lk = lk.extract 0 dd ++ omB ++ c.is) := by (show _ = _); rw [HLN.out, if_pos hq0, hov]
            have hsub : (lk.size : Int) - (ta.size : Int) = (dd : Int) := by omega
            have hdl2 : (dd : Int) ≤ (lk.size : Int) := by omega
            have hds : (lk.extract 0 dd).size ≤ 5000 := by rw [ByteArray.size_extract]; omega
            clear hq0 hov hdd hd2 HOQ hq1
            go_upto_region 11 with fail
            clear hoq
            refine anyR_begin (R := Later) Later.pre Later.drew 12 rfl (by kernel_rfl) (fun V0 hV0 => ?_)
            refine anyR_val Later.pre 0 rfl (by kernel_rfl) (by kernel_rfl) (by kernel_rfl) (fun _ _ _ _ h => h) rfl ?_; apply Exists.intro; refine ⟨fun v1 hv1 => ?_, ?_⟩; (· (go_simp; rfl)); simp only [Act.put, List.setIfInBounds_toArray, List.set_cons_zero, List.set_cons_succ]
            refine anyR_val Later.pre 1 rfl (by kernel_rfl) (by kernel_rfl) (by kernel_rfl) (fun _ _ _ _ h => h) rfl ?_; apply Exists.intro; refine ⟨fun v1 hv1 => ?_, ?_⟩; (· (go_simp; rfl)); simp only [Act.put, List.setIfInBounds_toArray, List.set_cons_zero, List.set_cons_succ]
            refine anyR_val Later.pre 2 rfl (by kernel_rfl) (by kernel_rfl) (by kernel_rfl) (fun _ _ _ _ h => h) rfl ?_; apply Exists.intro; refine ⟨fun v1 hv1 => ?_, ?_⟩; (· (go_simp; rfl)); simp only [Act.put, List.setIfInBounds_toArray, List.set_cons_zero, List.set_cons_succ]
            refine anyR_val Later.pre 3 rfl (by kernel_rfl) (by kernel_rfl) (by kernel_rfl) (fun _ _ _ _ h => h) rfl ?_; apply Exists.intro; refine ⟨fun v1 hv1 => ?_, ?_⟩; (· (go_simp; rfl)); simp only [Act.put, List.setIfInBounds_toArray, List.set_cons_zero, List.set_cons_succ]
            refine anyR_val Later.pre 4 rfl (by kernel_rfl) (by kernel_rfl) (by kernel_rfl) (fun _ _ _ _ h => h) rfl ?_; apply Exists.intro; refine ⟨fun v1 hv1 => ?_, ?_⟩; (· (go_simp; rfl)); simp only [Act.put, List.setIfInBounds_toArray, List.set_cons_zero, List.set_cons_succ]
            refine anyR_val Later.pre 5 rfl (by kernel_rfl) (by kernel_rfl) (by kernel_rfl) (fun _ _ _ _ h => h) rfl ⟨.int .i64 (dd : Int), fun v1 hv1 => (by first | (go_simp; done) | (go_simp; rw [wrI]; omega; omega) | (go_simp; omega)), ?_⟩; simp only [Act.put, List.setIfInBounds_toArray, List.set_cons_zero, List.set_cons_succ]
            refine anyR_val Later.pre 6 rfl (by kernel_rfl) (by kernel_rfl) (by kernel_rfl) (fun _ _ _ _ h => h) rfl ⟨.string (lk.extract 0 dd), fun v1 hv1 => (by first | (go_simp; done) | (go_simp; omega)), ?_⟩; simp only [Act.put, List.setIfInBounds_toArray, List.set_cons_zero, List.set_cons_succ]
            generalize lk.extract 0 dd = le at *
            refine anyR_val Later.pre 7 rfl (by kernel_rfl) (by kernel_rfl) (by kernel_rfl) (fun _ _ _ _ h => h) rfl ⟨.string (le ++ ⟨#[32, 73, 78, 32, 73, 80, 52, 32]⟩), fun v1 hv1 => (by first | (go_simp; done) | (go_simp; omega)), ?_⟩; simp only [Act.put, List.setIfInBounds_toArray, List.set_cons_zero, List.set_cons_succ]
            refine anyR_val Later.pre 8 rfl (by kernel_rfl) (by kernel_rfl) (by kernel_rfl) (fun _ _ _ _ h => h) rfl ?_; apply Exists.intro; refine ⟨fun v1 hv1 => ?_, ?_⟩; (· (go_simp; rfl)); simp only [Act.put, List.setIfInBounds_toArray, List.set_cons_zero, List.set_cons_succ]
            refine anyR_take Later.pre 9 (.string c.is) rfl (by kernel_rfl) (by kernel_rfl) (by kernel_rfl) (fun _ _ _ h => h) rfl (fun u hu => goes_call 29 #[.int .u32 t, .string ⟨#[46]⟩] (by go_simp) (HDT.out u)) ?_
            simp only [Act.put, List.setIfInBounds_toArray, List.set_cons_zero, List.set_cons_succ]
            refine anyR_val Later.pre 10 rfl (by kernel_rfl) (by kernel_rfl) (by kernel_rfl) (fun _ _ _ _ h => h) rfl ⟨.string (le ++ ⟨#[32, 73, 78, 32, 73, 80, 52, 32]⟩ ++ c.is), fun v1 hv1 => (by first | (go_simp; done) | (go_simp; omega)), ?_⟩; simp only [Act.put, List.setIfInBounds_toArray, List.set_cons_zero, List.set_cons_succ]
            refine anyR_val Later.pre 11 rfl (by kernel_rfl) (by kernel_rfl) (by kernel_rfl) (fun _ _ _ _ h => h) rfl ?_; apply Exists.intro; refine ⟨fun v1 hv1 => ?_, ?_⟩; (· (go_simp; rfl)); simp only [Act.put, List.setIfInBounds_toArray, List.set_cons_zero, List.set_cons_succ]
            refine anyR_done (by kernel_rfl) (fun V9 hV9 => ?_)
            go_wp2_with fail
            go_meet
            case rel => exact ⟨by rw [HV.out]; rfl, L3.trans (hV0.trans hV9)⟩
          | false =>
            replace HLN : Hid (lnB c lk = mlB c lk (mdO lk)) := by (show _ = _); rw [HLN.out, if_neg (fun hq => by have := HOQ.out.2 hq; rw [hoq] at this; cases this)]
            go_upto_region 12 with fail
            clear hoq HOQ
            go_wp2_with fail
            refine (rmedia_any lk _ (by omega)).mono ?_
            rintro e w4 ⟨rfl, l4⟩
            have L4 : Later wo w4 := L3.trans l4
            clear L3 l4
            cases mo : mdO lk with
            | none =>
              have HV : Hid (lnB c lk = lk) := by (show _ = _); rw [HLN.out, mo]; rfl
              clear mo HLN
              simp only [rmV]
              go_wp2_with fail
              go_meet
              case rel => exact ⟨by rw [HV.out], L4⟩
            | some m =>
              obtain ⟨xa, p, xb⟩ := m
              have hpr : 1 ≤ p ∧ p ≤ 65535 := (mdO_size mo).2.2
              obtain ⟨hx1, hx2, hx3, hx4⟩ := md_ext mo
              have HMN : Hid (inB c.media p = p → lnB c lk = lk) := fun hi => by rw [HLN.out, mo]; exact ml_keep c mo hi
              have HMY : Hid (∀ q, inB c.media p = q → lnB c lk = lk.extract 0 xa.size ++ decB q.toNat ++ lk.extract (lk.size - xb.size) lk.size) := fun q hi => by rw [HLN.out, mo]; exact ml_new c mo hi
              clear mo HLN hx1 hx2
              simp only [rmV]
              obtain ⟨na, hna⟩ : ∃ na, na = xa.size := ⟨_, rfl⟩
              obtain ⟨nb, hnb⟩ : ∃ nb, nb = lk.size - xb.size := ⟨_, rfl⟩
              rw [← hna, ← hnb] at HMY ⊢
              have hnl1 : (na : Int) ≤ (lk.size : Int) := by omega
              have hnl2 : (nb : Int) ≤ (lk.size : Int) := by omega
              have hz1 : (lk.extract 0 na).size ≤ 5000 := by rw [ByteArray.size_extract]; omega
              have hz2 : (lk.extract nb lk.size).size ≤ 5000 := by rw [ByteArray.size_extract]; omega
              clear hna hnb hx3 hx4
              go_upto_region 15 with fail
              go_loopw [13, 19] (fun sv jv wq => ∃ j : Nat, sv = .string lk ∧ jv = .int .i64 (j : Int) ∧ j ≤ c.media.length ∧ wq = w4 ∧ Hid (∀ i (hi : i < c.media.length), i < j → c.media[i].1 ≠ p)) (fun _ jv _ => c.media.length - (intOf jv).toNat)
              case atStart => exact ⟨0, rfl, rfl, by omega, rfl, hide (fun i hi h => by omega)⟩
              case round =>
                obtain ⟨j, rfl, rfl, hj, hwq, HN⟩ := hrel
                subst hwq
                by_cases hjl : j < c.media.length
                · have hjl' : (j : Int) < (c.media.length : Int) := by omega
                  have LW : Below w.heap.size w wr := Below.trans M1 (L4.mono M1.size)
                  obtain ⟨a, cap, e, e2, _⟩ | ⟨b, off, cp, e, _, _, _, hbn, hcs⟩ := HI.out.below LW
                  · rw [e2] at hjl; simp at hjl
                  cases e
                  obtain ⟨d0, d1⟩ := hcs j hjl
                  have hmr := (HC.out.2.2.2 c.media[j] (List.getElem_mem hjl))
                  have HF : Hid (c.media[j].1 = p → inB c.media p = c.media[j].2) := fun h => in_found hjl h (fun i hi => HN.out i (by omega) hi)
                  have HN2 : Hid (c.media[j].1 ≠ p → ∀ i (hi : i < c.media.length), i < j + 1 → c.media[i].1 ≠ p) := fun h i hi hij => by
                    by_cases hjj : i = j
                    · subst hjj; exact h
                    · exact HN.out i hi (by omega)
                  clear hcs HN
                  generalize c.media[j] = m at *
                  obtain ⟨m1, m2⟩ := m
                  simp only at d0 d1 HF HN2 hmr
                  obtain ⟨n2, rfl⟩ : ∃ n : Nat, m2 = (n : Int) := ⟨m2.toNat, by omega⟩
                  go_upto_region 17 with fail
                  by_cases hm : m1 = p
                  · have t1 : (m1 == p) = true := by simp [hm]
                    have hv := HMY.out _ (HF.out hm)
                    rw [Int.toNat_natCast] at hv
                    have HV := hide hv
                    clear hm hv HMY HMN HF HN2
                    go_upto_region 18 with fail
                    clear t1 d0
                    refine anyR_begin (R := Later) Later.pre Later.drew 16 rfl (by kernel_rfl) (fun V0 hV0 => ?_)
                    have q1 : ∀ v, Later V0 v → v.cell? ⟨b, off + j * 2 + 1, none⟩ = some (.int .u16 (n2 : Int)) := fun v hv => (hV0.trans hv).cell d1
                    refine anyR_val Later.pre 0 rfl (by kernel_rfl) (by kernel_rfl) (by kernel_rfl) (fun _ _ _ _ h => h) rfl ?_; apply Exists.intro; refine ⟨fun v1 hv1 => ?_, ?_⟩; (· (go_simp; rfl)); simp only [Act.put, List.setIfInBounds_toArray, List.set_cons_zero, List.set_cons_succ]
                    refine anyR_val Later.pre 1 rfl (by kernel_rfl) (by kernel_rfl) (by kernel_rfl) (fun _ _ _ _ h => h) rfl ?_; apply Exists.intro; refine ⟨fun v1 hv1 => ?_, ?_⟩; (· (go_simp; rfl)); simp only [Act.put, List.setIfInBounds_toArray, List.set_cons_zero, List.set_cons_succ]
                    refine anyR_val Later.pre 2 rfl (by kernel_rfl) (by kernel_rfl) (by kernel_rfl) (fun _ _ _ _ h => h) rfl ⟨.string (lk.extract 0 na), fun v1 hv1 => (by first | (go_simp; done) | (go_simp; omega)), ?_⟩; simp only [Act.put, List.setIfInBounds_toArray, List.set_cons_zero, List.set_cons_succ]
                    generalize lk.extract 0 na = le at *
                    refine anyR_val Later.pre 3 rfl (by kernel_rfl) (by kernel_rfl) (by kernel_rfl) (fun _ _ _ _ h => h) rfl ?_; apply Exists.intro; refine ⟨fun v1 hv1 => ?_, ?_⟩; (· (go_simp; rfl)); simp only [Act.put, List.setIfInBounds_toArray, List.set_cons_zero, List.set_cons_succ]
                    refine anyR_val Later.pre 4 rfl (by kernel_rfl) (by kernel_rfl) (by kernel_rfl) (fun _ _ _ _ h => h) rfl ?_; apply Exists.intro; refine ⟨fun v1 hv1 => ?_, ?_⟩; (· (go_simp; rfl)); simp only [Act.put, List.setIfInBounds_toArray, List.set_cons_zero, List.set_cons_succ]
                    refine anyR_val Later.pre 5 rfl (by kernel_rfl) (by kernel_rfl) (by kernel_rfl) (fun _ _ _ _ h => h) rfl ?_; apply Exists.intro; refine ⟨fun v1 hv1 => ?_, ?_⟩; (· (go_simp; rfl)); simp only [Act.put, List.setIfInBounds_toArray, List.set_cons_zero, List.set_cons_succ]
                    refine anyR_val Later.pre 6 rfl (by kernel_rfl) (by kernel_rfl) (by kernel_rfl) (fun _ _ _ _ h => h) rfl ?_; apply Exists.intro; refine ⟨fun v1 hv1 => ?_, ?_⟩; (· (go_simp; rfl)); simp only [Act.put, List.setIfInBounds_toArray, List.set_cons_zero, List.set_cons_succ]
                    refine anyR_val Later.pre 7 rfl (by kernel_rfl) (by kernel_rfl) (by kernel_rfl) (fun _ _ _ _ h => h) rfl ?_; apply Exists.intro; refine ⟨fun v1 hv1 => ?_, ?_⟩; (· (go_simp; rfl)); simp only [Act.put, List.setIfInBounds_toArray, List.set_cons_zero, List.set_cons_succ]
                    refine anyR_val Later.pre 8 rfl (by kernel_rfl) (by kernel_rfl) (by kernel_rfl) (fun _ _ _ _ h => h) rfl ⟨.int .i64 (n2 : Int), fun v1 hv1 => (by first | (go_simp; done) | (go_simp; rw [wrI]; omega; omega) | (go_simp; omega)), ?_⟩; simp only [Act.put, List.setIfInBounds_toArray, List.set_cons_zero, List.set_cons_succ]
                    clear q1 d1
                    refine anyR_take Later.pre 9 (.string (decB n2)) rfl (by kernel_rfl) (by kernel_rfl) (by kernel_rfl) (fun _ _ _ h => h) rfl (fun u hu => goes_call 18 #[.int .i64 ((n2 : Nat) : Int)] (by go_simp) (rdigits_any n2 (by omega) u)) ?_
                    simp only [Act.put, List.setIfInBounds_toArray, List.set_cons_zero, List.set_cons_succ]
                    have hds := decB_size n2 (by omega)
                    generalize decB n2 = dd at *
                    refine anyR_val Later.pre 10 rfl (by kernel_rfl) (by kernel_rfl) (by kernel_rfl) (fun _ _ _ _ h => h) rfl ⟨.string (le ++ dd), fun v1 hv1 => (by first | (go_simp; done) | (go_simp; omega)), ?_⟩; simp only [Act.put, List.setIfInBounds_toArray, List.set_cons_zero, List.set_cons_succ]
                    refine anyR_val Later.pre 11 rfl (by kernel_rfl) (by kernel_rfl) (by kernel_rfl) (fun _ _ _ _ h => h) rfl ?_; apply Exists.intro; refine ⟨fun v1 hv1 => ?_, ?_⟩; (· (go_simp; rfl)); simp only [Act.put, List.setIfInBounds_toArray, List.set_cons_zero, List.set_cons_succ]
                    refine anyR_val Later.pre 12 rfl (by kernel_rfl) (by kernel_rfl) (by kernel_rfl) (fun _ _ _ _ h => h) rfl ?_; apply Exists.intro; refine ⟨fun v1 hv1 => ?_, ?_⟩; (· (go_simp; rfl)); simp only [Act.put, List.setIfInBounds_toArray, List.set_cons_zero, List.set_cons_succ]
                    refine anyR_val Later.pre 13 rfl (by kernel_rfl) (by kernel_rfl) (by kernel_rfl) (fun _ _ _ _ h => h) rfl ⟨.string (lk.extract nb lk.size), fun v1 hv1 => (by first | (go_simp; done) | (go_simp; omega)), ?_⟩; simp only [Act.put, List.setIfInBounds_toArray, List.set_cons_zero, List.set_cons_succ]
                    generalize lk.extract nb lk.size = lz at *
                    refine anyR_val Later.pre 14 rfl (by kernel_rfl) (by kernel_rfl) (by kernel_rfl) (fun _ _ _ _ h => h) rfl ⟨.string (le ++ dd ++ lz), fun v1 hv1 => (by first | (go_simp; done) | (go_simp; omega)), ?_⟩; simp only [Act.put, List.setIfInBounds_toArray, List.set_cons_zero, List.set_cons_succ]
                    refine anyR_val Later.pre 15 rfl (by kernel_rfl) (by kernel_rfl) (by kernel_rfl) (fun _ _ _ _ h => h) rfl ?_; apply Exists.intro; refine ⟨fun v1 hv1 => ?_, ?_⟩; (· (go_simp; rfl)); simp only [Act.put, List.setIfInBounds_toArray, List.set_cons_zero, List.set_cons_succ]
                    refine anyR_done (by kernel_rfl) (fun V9 hV9 => ?_)
                    go_wp2_with fail
                    go_meet
                    case rel => exact ⟨by rw [HV.out], L4.trans (hV0.trans hV9)⟩
                  · have t1 : (m1 == p) = false := by simp [hm]
                    have HN3 := hide (HN2.out hm)
                    clear hm HF HN2
                    go_wp2_with fail
                    go_roundw
                    case rel => exact ⟨j + 1, rfl, by go_num, by omega, by first | trivial | rfl, HN3⟩
                    case measure => simp [intOf]; omega
                · have hjl' : ¬ (j : Int) < (c.media.length : Int) := by omega
                  have HV := hide (HMN.out (in_none (fun i hi => HN.out i hi (by omega))))
                  clear HN HMY HMN
                  go_wp2_with fail
                  go_meet
                  case rel => exact ⟨by rw [HV.out], L4⟩
    case rest =>
      obtain ⟨rfl, lc4⟩ := hcut
      clear HLN HOQ HTA htz L3 HCO HDH HDT
      have MC : Below w.heap.size w wc := Below.trans M1 (lc4.mono M1.size)
      have HOc := hide (ownsS_ct HO.out (CTs.of lc4))
      have HSc := hide (ownsS_ct HS.out (CTs.of lc4))
      have HEc := hide (ownsS_ct HE.out (CTs.of lc4))
      have hln := lnB_size c HC.out lk
      have hmcs := MC.size
      clear HO HS HE lc4 M1
      generalize lnB c lk = nl at *
      obtain ⟨i0, hi0, hz0, hz1, hz2⟩ := info_partsS info_u8
      have hal : (nvs acc).length = acc.size := by unfold nvs; rw [List.length_map, nmsB_len]
      obtain ⟨v', W2, hrun, hrow, hg, _⟩ := Lib.run_append_own_string (P := Tryz.prog) wc w.heap.size 23 9 23 5 i0 Tryz.underlying23 Tryz.underlying9 hi0 hz0 hz1 hz2 _ _ _ HOc.out nl (by unfold maxLen; omega) (by omega) hmcs
      obtain ⟨a2, cp2, rfl⟩ := owns_form hrow
      obtain ⟨k2, k2o⟩ := appR_keep (Later.refl _) (by rw [hal]; exact HOc.out) hg hmcs
      have HS2 := hide (k2o (by decide) HSc.out)
      have HE2 := hide (k2o (by decide) HEc.out)
      have M2 : Below w.heap.size w W2 := MC.trans k2
      have hq : (acc ++ nl).size = acc.size + nl.size := ByteArray.size_append
      have HO2 : Hid (W2.ownsRow w.heap.size 5 1 (.slice a2 (acc.size + nl.size) cp2) (acc ++ nl).size (nvs (acc ++ nl))) := by
        (show World.ownsRow _ _ _ _ _ _ _)
        rw [hq, nvs_app, nvs_str nl]
        exact hrow
      have HRUN := hide hrun
      have hz2q : acc.size + nl.size ≤ 100000000 := by omega
      rw [← ByteArray.append_assoc] at HNX
      generalize acc ++ nl = ac2 at *
      have HQ2 := hide hq
      have hM2s := M2.size
      clear hrun hg k2o k2 hrow HOc HSc HEc MC hq hln hi0 hz0 hz1 hz2 i0 hal
      obtain ⟨g1, hg1, ke⟩ := HKE.out W2 HE2.out
      subst hg1
      generalize hzq : acc.size + nl.size = zq at *
      clear hzq
      go_upto_region 20 with (at_builtin; refine wpList_appT rfl (.tmp 114) (.tmp 115) 23 9 rfl _ _ rfl rfl _ _ HRUN.out ?_)
      clear HRUN
      cases en with
      | false =>
        have HOF : Hid (W2.ownsRow w.heap.size 5 1 (.slice a2 zq cp2) (dbL c (dl.take (k + 1))).size (nvs (dbL c (dl.take (k + 1))))) := by
          rw [HNX.out, show enB false = ⟨#[]⟩ from rfl, bapp_nil]
          exact HO2
        go_wp2_with fail
        go_roundw
        case rel => exact ⟨k + 1, by omega, by go_num, M2, ⟨_, rfl, HOF⟩, HS2, HE2⟩
        case measure => simp [intOf]; omega
      | true =>
        have hal2 : (nvs ac2).length = zq := by unfold nvs; rw [List.length_map, nmsB_len]; exact HQ2.out
        obtain ⟨a3, c3, W3, hr3, hO3, hg3⟩ := app2U (W := W2) (base := w.heap.size) (v := .slice a2 zq cp2) (xs := nvs ac2) (by have := HO2.out; rw [HQ2.out] at this; rw [hal2]; exact this) (by rw [hal2]; exact hz2q) hM2s 23
        obtain ⟨k3, k3o⟩ := appR_keep (later_allocR W2 (.cells #[.int .u8 13, .int .u8 10] 5)) (v := .slice a2 zq cp2) (xs := nvs ac2) (by have := HO2.out; rw [HQ2.out] at this; rw [hal2]; exact this) hg3 hM2s
        rw [hal2] at hr3 hO3
        have HS3 := hide (k3o (by decide) HS2.out)
        have HE3 := hide (k3o (by decide) HE2.out)
        have M3 : Below w.heap.size w W3 := M2.trans k3
        have HOF : Hid (W3.ownsRow w.heap.size 5 1 (.slice a3 (zq + 2) c3) (dbL c (dl.take (k + 1))).size (nvs (dbL c (dl.take (k + 1))))) := by
          rw [HNX.out, show enB true = crB from rfl]
          have e1 : nvs (ac2 ++ crB) = nvs ac2 ++ [.int .u8 13, .int .u8 10] := by rw [nvs_app]; rfl
          have e2 : (ac2 ++ crB).size = (nvs ac2 ++ [Value.int .u8 13, .int .u8 10]).length := by rw [← e1]; unfold nvs; rw [List.length_map, nmsB_len]
          rw [e1, e2]
          exact hO3
        have HR3 := hide hr3
        clear hr3 hO3 hg3 k3o k3 hal2
        go_wp2_with (at_builtin; refine wpList_appT rfl (.tmp 121) (.tmp 122) 23 23 rfl _ _ rfl rfl _ _ HR3.out ?_)
        go_roundw
        case rel => exact ⟨k + 1, by omega, by go_num, M3, ⟨_, rfl, HOF⟩, HS3, HE3⟩
        case measure => simp [intOf]; omega
end Go.Proofs.YtibjgaelaijgpaaGreatDoor
