/- Several texts in one. -/
import Derived.Test.YtehdgndbloaljaaDoorX3
import Derived.Lib.AppendStr
import Derived.Deep.Cut
import Derived.Test.YtehdgndbloaljaaDoorVS
/- Bytes made of a text, appended to; package sip: joined, Build. -/
namespace Go.Proofs.YtehdgndbloaljaaDoor
open Go.RowKit Go.Shelf
set_option maxRecDepth 100000
set_option linter.unusedVariables false
set_option linter.unusedSimpArgs false

/-- storeCells into a row of which no cell is frozen. -/
theorem storeG (P : Program) (g o : Nat) (t : TypeId) (fz : Nat × Nat) : ∀ (vs : List Value) (i : Nat) (cur : Array Value) (w : World), w.heap[g]? = some (.cells cur t fz) → cur.size ≤ fz.1 ∨ fz = (0, 0) → o + i + vs.length ≤ cur.size → (∀ v ∈ vs, v.oneCell' = true) →
    (storeCells ⟨g, o, none⟩ vs i).run P w = .ok () (w.setRow g (cur.toList.take (o + i) ++ vs ++ cur.toList.drop (o + i + vs.length)).toArray)
  | [], i, cur, w, hg, _, _, _ => by
    simp only [storeCells, List.append_nil, List.length_nil, Nat.add_zero, List.take_append_drop, Array.toArray_toList]
    rw [setRow_self w g cur t fz hg]
    rfl
  | v :: rest, i, cur, w, hg, hfz, hl, h1 => by
    have hi : o + i < cur.size := by simp at hl; omega
    have hadd : (⟨g, o, none⟩ : Addr).add i = ⟨g, o + i, none⟩ := by unfold Addr.add; split <;> simp_all
    have hcell : w.cell? ⟨g, o + i, none⟩ = some cur[o + i] := by simp [World.cell?, hg, hi]
    have hfro : w.frozen? ⟨g, o + i, none⟩ = false := by
      obtain ⟨lo, hi'⟩ := fz
      simp only [World.frozen?, hg, Bool.and_eq_false_iff, decide_eq_false_iff_not]
      rcases hfz with h | h
      · left
        simp only at h
        omega
      · right
        simp only [Prod.mk.injEq] at h
        omega
    have hst : (store ((⟨g, o, none⟩ : Addr).add i) v).run P w = .ok () (w.setRow g (cur.setIfInBounds (o + i) v)) := by
      rw [hadd, run_store P w _ v _ (h1 v (by simp)), hcell]
      simp [hfro, setCell_eq_setRow w g (o + i) cur t fz v hg]
    have ih := storeG P g o t fz rest (i + 1) (cur.setIfInBounds (o + i) v) (w.setRow g (cur.setIfInBounds (o + i) v)) (setRow_heap w g cur _ t _ hg) (by simpa using hfz) (by simp at hl ⊢; omega) (fun x hx => h1 x (by simp [hx]))
    simp only [storeCells, Sem.run_bind, hst, Result.andThen_ok, ih, setRow_setRow]
    congr 3
    have e := list_seg_step cur.toList (o + i) v rest (by simp at hl ⊢; omega)
    simpa [Array.toList_setIfInBounds, Nat.add_assoc] using e
/-- Bytes of one's own in a row of which no cell is frozen. -/
def OwG (base : Nat) (W : World) (v : Value) (ys : List Int) : Prop :=
  ∃ g cap cur fz, v = .slice (some ⟨g, 0, none⟩) ys.length cap ∧ base ≤ g ∧ W.heap[g]? = some (.cells cur 5 fz) ∧ (cur.size ≤ fz.1 ∨ fz = (0, 0)) ∧ ys.length ≤ cap ∧ cap ≤ maxLen ∧ cur.size = cap ∧ cur.toList.take ys.length = ys.map (Value.int .u8)
theorem OwG.form {base : Nat} {W : World} {v : Value} {ys : List Int} (h : OwG base W v ys) : ∃ g cap, v = .slice (some ⟨g, 0, none⟩) ys.length cap ∧ base ≤ g := let ⟨g, cap, _, _, e, hb, _⟩ := h; ⟨g, cap, e, hb⟩
theorem OwG.later {base : Nat} {A B : World} {v : Value} {ys : List Int} (h : OwG base A v ys) (l : Later A B) : OwG base B v ys := let ⟨g, cap, cur, fz, e, hb, hh, r⟩ := h; ⟨g, cap, cur, fz, e, hb, later_keep l hh, r⟩
theorem OwG.cell {base : Nat} {W : World} {g cap : Nat} {ys : List Int} (h : OwG base W (.slice (some ⟨g, 0, none⟩) ys.length cap) ys) (j : Nat) (hj : j < ys.length) : W.cell? ⟨g, j, none⟩ = some (.int .u8 ys[j]) := by
  obtain ⟨g', cap', cur, fz, e, hb, hh, _, _, _, hs, ht⟩ := h
  cases e
  rw [cell_of_row W g j cur _ fz hh, ← Array.getElem?_toList]
  have h1 := congrArg (·[j]?) ht
  simp only [List.getElem?_take, if_pos hj, List.getElem?_map, List.getElem?_eq_getElem hj, Option.map_some] at h1
  exact h1
theorem OwG.rd {base : Nat} {W : World} {v : Value} {ys : List Int} (h : OwG base W v ys) : Rd W.heap.size W v ys := by
  obtain ⟨g, cap, cur, fz, rfl, hb, hh, hf, hc, hm, hs, ht⟩ := h
  unfold maxLen at hm
  by_cases hn : ys = []
  · subst hn
    exact .inl ⟨_, cap, rfl, rfl, hm, fun h => by cases h⟩
  · refine .inr ⟨g, 0, cap, rfl, hn, hc, hm, (Array.getElem?_eq_some_iff.1 hh).1, fun j hj => ?_⟩
    rw [Nat.zero_add, List.getElem?_eq_getElem hj]
    exact OwG.cell ⟨g, cap, cur, fz, rfl, hb, hh, hf, hc, by unfold maxLen; exact hm, hs, ht⟩ j hj
theorem conv_G (w : World) (s : ByteArray) (hs : s.size ≤ 140737488355328) : OwG w.heap.size (Lib.bytesWorld w 5 s) (.slice (some ⟨w.heap.size, 0, none⟩) s.size (grownCap w s.size 0 5)) (nmsB s) := by
  have hc := grownCap_le_maxLen w s.size 0 5 (by unfold maxLen; omega)
  have hg := grownCap_ge w s.size 0 5
  have hz : (Lib.bytesCells w 5 s).size = grownCap w s.size 0 5 := by
    have : s.data.size = s.size := rfl
    simp [Lib.bytesCells, this]
    omega
  refine ⟨w.heap.size, _, _, _, by rw [nmsB_len], Nat.le_refl _, Lib.bytesWorld_at_new w 5 s, .inl (Nat.le_refl _), by rw [nmsB_len]; exact hg, hc, hz, ?_⟩
  unfold Lib.bytesCells nmsB
  rw [Array.toList_append, List.take_left' (by simp)]
  simp
theorem grown_later {w W W' : World} {base : Nat} {v : Value} (hg : W.grownBy W' v.ownBlock) (hl : Below base w W) (hbs : base ≤ W.heap.size) (hb : ∀ k, v.ownBlock = some k → base ≤ k) : Below base w W' :=
  hl.trans ⟨hg.os, hg.tape, hg.output, hg.size, fun i hi => by
    by_cases hiW : i < W.heap.size
    · exact hg.block i hiW (fun e => by have := hb i e.symm; omega)
    · omega⟩
/-- append of a text. -/
theorem appG_str (ty base : Nat) (W : World) (v : Value) (ys : List Int) (h : OwG base W v ys) (s : ByteArray) (hb : base ≤ W.heap.size) (hz : ys.length + s.size ≤ 1000000) :
    ∃ v' W', (Builtin.append_ #[22, 9] ty #[v, .string s]).run Tryd.prog W = .ok v' W' ∧ OwG base W' v' (ys ++ nmsB s) ∧ W.grownBy W' v.ownBlock := by
  obtain ⟨i, hi, hz0, hz1, hz2⟩ := info_partsS info_u8
  have h' := h
  obtain ⟨g, cap, cur, fz, rfl, hbg, hg, hfz, hnc, hcm, hcs, htake⟩ := h
  have hsc : Lib.strCells s = (nmsB s).map (Value.int .u8) := by unfold Lib.strCells nmsB; rw [List.map_map]; rfl
  have hlen : (ys ++ nmsB s).length = ys.length + s.size := by rw [List.length_append, nmsB_len]
  by_cases hroom : ys.length + s.size ≤ cap
  · have hf := Lib.run_firstCells_string (P := Tryd.prog) W 1 s
    have hst := storeG Tryd.prog g ys.length 5 fz (Lib.strCells s) 0 cur W hg hfz (by rw [Lib.strCells_length]; omega) (Lib.strCells_oneCell s)
    simp only [Nat.add_zero, Lib.strCells_length] at hst
    have hr : (Builtin.append_ #[22, 9] ty #[.slice (some ⟨g, 0, none⟩) ys.length cap, .string s]).run Tryd.prog W = .ok (.slice (some ⟨g, 0, none⟩) (ys.length + s.size) cap) (W.setRow g (cur.toList.take ys.length ++ Lib.strCells s ++ cur.toList.drop (ys.length + s.size)).toArray) := by
      simp [Builtin.append_, run_underlying Tryd.underlying22, run_underlying Tryd.underlying9, sizeOf, typeInfo, hi, hz1, Builtin.lenOf, hroom, hf, Addr.add_lit, hst]
    refine ⟨_, _, hr, ?_, ⟨rfl, rfl, rfl, by simp, fun k _ hk => setRow_other W g k _ (fun e => hk (by simp [Value.ownBlock, e]))⟩⟩
    have hsz : (cur.toList.take ys.length ++ Lib.strCells s ++ cur.toList.drop (ys.length + s.size)).toArray.size = cap := by
      simp only [List.size_toArray, List.length_append, List.length_take, List.length_drop, Array.length_toList, Lib.strCells_length]
      omega
    refine ⟨g, cap, _, fz, by rw [hlen], hbg, setRow_heap W g cur _ _ _ hg, by rw [hsz, ← hcs]; exact hfz, by omega, hcm, hsz, ?_⟩
    rw [htake, hsc, ← List.map_append, List.take_left' (by simp)]
  · have holds : ∀ j u, (ys.map (Value.int .u8))[j]? = some u → W.cell? ((⟨g, 0, none⟩ : Addr).add j) = some u := fun j u hu => by
      have hj : j < ys.length := by have := (List.getElem?_eq_some_iff.1 hu).1; simpa using this
      rw [addr_addS, Nat.zero_add, OwG.cell h' j hj, ← hu, List.getElem?_map, List.getElem?_eq_getElem hj]
      rfl
    have hr := Lib.run_append_grow_string (P := Tryd.prog) W 22 9 ty 5 i (.int .u8 0) Tryd.underlying22 Tryd.underlying9 hi hz0 ⟨g, 0, none⟩ ys.length cap (ys.map (Value.int .u8)) (by rw [hz1]; simp) holds s (by omega) (by omega) (by rw [hz2]; exact growslice_fits (by omega) (by omega))
    have hge := grownCap_ge W (ys.length + s.size) cap 5
    have hcm2 : grownCap W (ys.length + s.size) cap 5 ≤ maxLen := grownCap_le_maxLen W (ys.length + s.size) cap 5 (by unfold maxLen; omega)
    refine ⟨_, _, hr, ⟨W.heap.size, _, _, (0, 0), by rw [hlen], hb, heap_alloc_new W.drew _, .inr rfl, by rw [hlen]; exact hge, hcm2, ?_, ?_⟩, ⟨rfl, rfl, rfl, by simp, fun k hk _ => Below.heap_alloc W.drew _ k hk⟩⟩
    · have hz1 : (Value.int IntKind.u8 0).cells.size = 1 := rfl
      simp only [Array.size_append, List.size_toArray, size_zeroCells, hz1, List.length_map, Lib.strCells_length]
      omega
    · simp only [Array.toList_append, List.append_assoc, hsc]
      rw [← List.append_assoc, ← List.map_append, List.take_left' (by simp)]
/-- append of bytes. -/
theorem appG_bytes (ty base n₀ : Nat) (W : World) (v : Value) (ys : List Int) (h : OwG base W v ys) (sx : Value) (zs : List Int) (hI : Rd n₀ W sx zs) (hb : base ≤ W.heap.size) (hz : ys.length + zs.length ≤ 1000000) :
    ∃ v' W', (Builtin.append_ #[22, 22] ty #[v, sx]).run Tryd.prog W = .ok v' W' ∧ OwG base W' v' (ys ++ zs) ∧ W.grownBy W' v.ownBlock := by
  obtain ⟨i, hi, hz0, hz1, hz2⟩ := info_partsS info_u8
  have h' := h
  obtain ⟨g, cap, cur, fz, rfl, hbg, hg, hfz, hnc, hcm, hcs, htake⟩ := h
  have hlen : (ys ++ zs).length = ys.length + zs.length := List.length_append
  obtain ⟨ao, c, rfl, hcells⟩ : ∃ ao c, sx = .slice ao zs.length c ∧ (Builtin.firstCells 1 zs.length sx).run Tryd.prog W = .ok (zs.map (Value.int .u8)).toArray W := by
    rcases hI with ⟨ao, cp, rfl, rfl, hm, hn⟩ | ⟨b, off, cp, rfl, hne, hl, hm, hb, hc⟩
    · refine ⟨ao, cp, rfl, ?_⟩
      cases ao with
      | none => simp [Builtin.firstCells]
      | some a =>
        have := run_firstCells_some (P := Tryd.prog) W 1 0 a 0 cp [] rfl (fun j v hj => by simp at hj)
        exact this
    · exact ⟨_, cp, rfl, run_firstCells_some (P := Tryd.prog) W 1 zs.length ⟨b, off, none⟩ zs.length cp (zs.map (Value.int .u8)) (by simp) (fun j u hu => by
        have hj : j < zs.length := by have := (List.getElem?_eq_some_iff.1 hu).1; simpa using this
        rw [addr_addS, hc j hj, ← hu, List.getElem?_map, List.getElem?_eq_getElem hj]
        rfl)⟩
  by_cases hroom : ys.length + zs.length ≤ cap
  · have hst := storeG Tryd.prog g ys.length 5 fz (zs.map (Value.int .u8)) 0 cur W hg hfz (by simp; omega) (by intro u hu; simp at hu; obtain ⟨z, _, rfl⟩ := hu; rfl)
    simp only [Nat.add_zero, List.length_map] at hst
    have hr : (Builtin.append_ #[22, 22] ty #[.slice (some ⟨g, 0, none⟩) ys.length cap, .slice ao zs.length c]).run Tryd.prog W = .ok (.slice (some ⟨g, 0, none⟩) (ys.length + zs.length) cap) (W.setRow g (cur.toList.take ys.length ++ zs.map (Value.int .u8) ++ cur.toList.drop (ys.length + zs.length)).toArray) := by
      simp [Builtin.append_, run_underlying Tryd.underlying22, sizeOf, typeInfo, hi, hz1, Builtin.lenOf, hroom, hcells, Addr.add_lit, hst]
    refine ⟨_, _, hr, ?_, ⟨rfl, rfl, rfl, by simp, fun k _ hk => setRow_other W g k _ (fun e => hk (by simp [Value.ownBlock, e]))⟩⟩
    have hsz : (cur.toList.take ys.length ++ zs.map (Value.int .u8) ++ cur.toList.drop (ys.length + zs.length)).toArray.size = cap := by
      simp only [List.size_toArray, List.length_append, List.length_take, List.length_drop, Array.length_toList, List.length_map]
      omega
    refine ⟨g, cap, _, fz, by rw [hlen], hbg, setRow_heap W g cur _ _ _ hg, by rw [hsz, ← hcs]; exact hfz, by omega, hcm, hsz, ?_⟩
    rw [htake, ← List.map_append, List.take_left' (by simp)]
  · have holds : ∀ j u, (ys.map (Value.int .u8))[j]? = some u → W.cell? ((⟨g, 0, none⟩ : Addr).add j) = some u := fun j u hu => by
      have hj : j < ys.length := by have := (List.getElem?_eq_some_iff.1 hu).1; simpa using this
      rw [addr_addS, Nat.zero_add, OwG.cell h' j hj, ← hu, List.getElem?_map, List.getElem?_eq_getElem hj]
      rfl
    rcases hI with ⟨_, _, e, h0, _⟩ | ⟨b, off, cp, e, hne, hl, hm, hbb, hc⟩
    · exact absurd (by rw [h0]; exact hnc) hroom
    cases e
    have hr := run_append_grow (P := Tryd.prog) (w := W) 22 ty 5 i (.int .u8 0) Tryd.underlying22 hi hz0 ⟨g, 0, none⟩ ys.length cap (ys.map (Value.int .u8)) (by rw [hz1]; simp) holds ⟨b, off, none⟩ zs.length c (zs.map (Value.int .u8)) (by rw [hz1]; simp) (fun j u hu => by
        have hj : j < zs.length := by have := (List.getElem?_eq_some_iff.1 hu).1; simpa using this
        rw [addr_addS, hc j hj, ← hu, List.getElem?_map, List.getElem?_eq_getElem hj]
        rfl) (by omega) (by omega) (by rw [hz2]; exact growslice_fits (by omega) (by omega))
    have hge := grownCap_ge W (ys.length + zs.length) cap 5
    have hcm2 : grownCap W (ys.length + zs.length) cap 5 ≤ maxLen := grownCap_le_maxLen W (ys.length + zs.length) cap 5 (by unfold maxLen; omega)
    refine ⟨_, _, hr, ⟨W.heap.size, _, _, (0, 0), by rw [hlen], hb, heap_alloc_new W.drew _, .inr rfl, by rw [hlen]; exact hge, hcm2, ?_, ?_⟩, ⟨rfl, rfl, rfl, by simp, fun k hk _ => Below.heap_alloc W.drew _ k hk⟩⟩
    · have hz1 : (Value.int IntKind.u8 0).cells.size = 1 := rfl
      simp only [Array.size_append, List.size_toArray, size_zeroCells, hz1, List.length_map]
      omega
    · simp only [Array.toList_append, List.append_assoc]
      rw [← List.append_assoc, ← List.map_append, List.take_left' (by simp)]

theorem wpList_appT {P : Program} {ops : Array Oper} {rest : List Oper} {o : Oper} {a : Act} {Q : Exit → Act → World → Prop} {w : World} (hg : o.guard = none) (s x : Operand) (t u : TypeId) (hop : o.op = Op.call { callee := Callee.builtin Builtin.append, args := #[s, x], argTypes := #[t, u] })
    (v sx : Value) (hs : a.eval s = v) (hx : a.eval x = sx) (v' : Value) (w' : World) (hrun : (Builtin.append_ #[t, u] o.type #[v, sx]).run P w = .ok v' w') (hk : wpList P ops Q rest (a.put o.dst v') w') : wpList P ops Q (o :: rest) a w :=
  wpList_plain hg fun K hK => wp_appT s x t u hop v sx hs hx v' w' hrun (hK _ _ hk)

def nmE : ByteArray := ⟨#[58, 32]⟩
/-- A header's line. -/
def hdB (h : Hr) : ByteArray := h.1 ++ nmE ++ h.2 ++ crB
/-- Headers' lines. -/
def hdL (hs : List Hr) : List Int := hs.flatMap fun h => nmsB (hdB h)
/-- A message's bytes. -/
def txM (st : ByteArray) (hs : List Hr) (zb : List Int) : List Int := nmsB (st ++ crB) ++ hdL hs ++ nmsB crB ++ zb
theorem nmsB_app (s t : ByteArray) : nmsB (s ++ t) = nmsB s ++ nmsB t := by unfold nmsB; simp
theorem hdL_snoc (l : List Hr) (h : Hr) : hdL (l ++ [h]) = hdL l ++ nmsB (hdB h) := by unfold hdL; simp
theorem hdB_size (h : Hr) : (hdB h).size = h.1.size + 2 + h.2.size + 2 := by unfold hdB; simp only [ByteArray.size_append]; rfl
theorem hdL_len (l : List Hr) : (hdL l).length = hsz l := by
  induction l with
  | nil => rfl
  | cons h l ih => unfold hdL hsz at ih ⊢; rw [List.flatMap_cons, List.length_append, ih, nmsB_len, hdB_size]; simp
theorem txM_len (st : ByteArray) (hs : List Hr) (zb : List Int) : (txM st hs zb).length = szM st hs zb.length := by
  unfold txM szM
  rw [List.length_append, List.length_append, List.length_append, nmsB_len, nmsB_len, hdL_len, ByteArray.size_append]
  rfl

set_option maxRecDepth 100000 in
set_option maxHeartbeats 8000000 in
theorem joined_any (st : ByteArray) (sv sb : Value) (hs : List Hr) (zb : List Int) (w : World) (hH : RdM w.heap.size w sv hs) (hB : Rd w.heap.size w sb zb) (hz : szM st hs zb.length ≤ 4096) :
    Calls Tryd.prog 24 #[.agg #[.string st, sv, sb]] w fun e w' => Later w w' ∧ ∃ v, e = .returned v ∧ OwG w.heap.size w' v (txM st hs zb) := by
  obtain ⟨sa, scp, rfl, hsc1, hsc2⟩ := hH.slice
  obtain ⟨ba, bcp, rfl, hbc1, hbc2⟩ := hB.slice
  have l0 : Later w (w.alloc (.cells #[.string st, .slice sa hs.length scp, .slice ba zb.length bcp] 25)) := later_allocR _ _
  have C0 := hide (heap_alloc_new w (.cells #[.string st, .slice sa hs.length scp, .slice ba zb.length bcp] 25))
  have hz2 : st.size + 2 + hsz hs + 2 + zb.length ≤ 4096 := hz
  have HTX : Hid (txM st hs zb = nmsB (st ++ crB) ++ hdL hs ++ nmsB crB ++ zb) := rfl
  generalize txM st hs zb = tx at *
  have hcs : (st ++ crB).size = st.size + 2 := by rw [ByteArray.size_append]; rfl
  have HCS := hide hcs
  clear hcs
  go_enter Tryd.func24, Tryd.ntmps24
  go_upto_region 1 with fail
  generalize w.alloc _ = w0 at *
  have hgs : w.heap.size ≤ w0.heap.size := l0.size
  have HB0 := hide (hB.later l0)
  have HH0 := hide (hH.later l0)
  have k0 := block_cell C0.out
  obtain ⟨gb, cb, w1, hcv, hG1, l1⟩ : ∃ g c w1, (convert 9 22 (.string (st ++ ⟨#[13, 10]⟩))).run Tryd.prog w0 = .ok (.slice (some ⟨g, 0, none⟩) (nmsB (st ++ crB)).length c) w1 ∧ OwG w.heap.size w1 (.slice (some ⟨g, 0, none⟩) (nmsB (st ++ crB)).length c) (nmsB (st ++ crB)) ∧ Later w0 w1 := by
    have hG := conv_G w0 (st ++ crB) (by rw [HCS.out]; omega)
    rw [← nmsB_len (st ++ crB)] at hG
    obtain ⟨g, cap, cur, fz, e, hbg, r⟩ := hG
    refine ⟨w0.heap.size, _, _, ?_, ⟨g, cap, cur, fz, e, by omega, r⟩, conv_later w0 5 (st ++ crB)⟩
    rw [nmsB_len]
    exact Lib.run_convert_string_bytes w0 9 22 5 (st ++ crB) Tryd.underlying9 Tryd.underlying22 Tryd.underlying5
  have hy0 : (nmsB (st ++ crB)).length = st.size + 2 := by rw [nmsB_len, HCS.out]
  have HY0 := hide hy0
  have HG1 := hide hG1
  clear hG1 hy0
  generalize nmsB (st ++ crB) = y0 at *
  go_upto_region 2 with fail
  clear hcv k0
  have C1 := hide (later_keep l1 C0.out)
  have k1 := block_cell C1.out
  go_upto_region 3 with fail
  clear k1
  have HH1 := hide (hH.later (Later.trans l0 l1))
  have HB1 := hide (hB.later (Later.trans l0 l1))
  have L1 : Later w w1 := Later.trans l0 l1
  go_loopw [3, 13] (fun bv iv wr => ∃ k : Nat, k ≤ hs.length ∧ iv = .int .i64 (k : Int) ∧ Below w.heap.size w wr ∧ Hid (wr.heap[w.heap.size]? = some (.cells #[.string st, .slice sa hs.length scp, .slice ba zb.length bcp] 25 (0, 0))) ∧ Hid (OwG w.heap.size wr bv (y0 ++ hdL (hs.take k)))) (fun _ iv _ => hs.length - (intOf iv).toNat)
  case atStart => exact ⟨0, by omega, rfl, L1, C1, by rw [List.take_zero]; show Hid (OwG _ _ _ (y0 ++ [])); rw [List.append_nil]; exact HG1⟩
  case round =>
    obtain ⟨k, hk, rfl, lr, CR, HG⟩ := hrel
    have hle := hsz_take_le hs k
    have hdl := hdL_len (hs.take k)
    by_cases hlt : k < hs.length
    · have hlt' : (k : Int) < (hs.length : Int) := by omega
      obtain ⟨b, off, cp, e, _, _, hbn, hcs⟩ := (hH.below lr).cells (by omega)
      cases e
      have d0 := hcs k hlt 0 (by omega)
      have d1 := hcs k hlt 1 (by omega)
      have hsn : hs.take (k + 1) = hs.take k ++ [hs[k]] := by rw [← List.take_append_getElem hlt]
      have HSN : Hid (hdL (hs.take (k + 1)) = hdL (hs.take k) ++ nmsB (hdB hs[k])) := by show _ = _; rw [hsn, hdL_snoc]
      have hle2 := hsz_take_le hs (k + 1)
      rw [hsn, hsz_snoc] at hle2
      clear hcs hsn
      generalize hs[k] = r at *
      obtain ⟨x, y⟩ := r
      simp only [hrc, List.getElem?_cons_zero, List.getElem?_cons_succ, Nat.add_zero] at d0 d1 hle2
      have la := later_allocR wr (.cells #[.string x, .string y] 53)
      have B1 := hide (heap_alloc_new wr (.cells #[.string x, .string y] 53))
      go_upto_region 5 with fail
      clear d0 d1
      have lrs := lr.size
      have hlb : Below w.heap.size w (wr.alloc (.cells #[.string x, .string y] 53)) := lr.trans (la.mono lrs)
      have CQ := hide (later_keep la CR.out)
      have HG' := hide (HG.out.later la)
      have hgq : w.heap.size ≤ (wr.alloc (.cells #[.string x, .string y] 53)).heap.size := hlb.size
      generalize wr.alloc _ = wq at *
      have hHB : Hid (hdB (x, y) = x ++ ⟨#[58, 32]⟩ ++ y ++ ⟨#[13, 10]⟩) := rfl
      have hbs := hdB_size (x, y)
      rw [hHB.out] at HSN hbs
      have hyl : (y0 ++ hdL (hs.take k)).length = st.size + 2 + hsz (hs.take k) := by rw [List.length_append, hdl, HY0.out]
      obtain ⟨v2, w2, hrun, hG2, hgb2⟩ := appG_str 22 w.heap.size wq _ _ HG'.out (x ++ ⟨#[58, 32]⟩ ++ y ++ ⟨#[13, 10]⟩) hgq (by rw [hyl, hbs]; simp only; omega)
      obtain ⟨g2, c2, e2, hg2⟩ := hG2.form
      obtain ⟨g1, c1, e1, hg1⟩ := HG'.out.form
      generalize hn1 : (y0 ++ hdL (hs.take k)).length = n1 at e1
      generalize hn2 : (y0 ++ hdL (hs.take k) ++ nmsB (x ++ ⟨#[58, 32]⟩ ++ y ++ ⟨#[13, 10]⟩)).length = n2 at e2
      subst e1
      subst e2
      clear hn1 hn2 hyl
      have l2 := grown_later hgb2 hlb hgq (fun k hk => by simp [Value.ownBlock] at hk; omega)
      have C2 : Hid (w2.heap[w.heap.size]? = some (.cells #[.string st, .slice (some ⟨b, off, none⟩) hs.length scp, .slice ba zb.length bcp] 25 (0, 0))) := by
        show _ = _
        rw [hgb2.block w.heap.size (Array.getElem?_eq_some_iff.1 CQ.out).1 (fun e => by
          simp [Value.ownBlock] at e
          obtain ⟨_, _, cur, fz, e1, _, hh, _⟩ := HG'.out
          cases e1
          rw [← e, CQ.out] at hh
          cases hh)]
        exact CQ.out
      have HG2 := hide hG2
      have HRUN := hide hrun
      have hk1 := block_cell B1.out
      have hxs : x.size + 2 + y.size + 2 ≤ 4096 := by omega
      clear hG2 hrun hgb2 hdl HG HG' hbs hle hle2
      generalize wr.heap.size = gh at *
      go_wp2_with (at_builtin; refine wpList_appT rfl (.tmp 17) (.tmp 24) 22 9 rfl _ _ rfl rfl _ _ HRUN.out ?_)
      go_roundw
      case rel => exact ⟨k + 1, by omega, by go_num, l2, C2, by rw [HSN.out, ← List.append_assoc]; exact HG2⟩
      case measure => simp [intOf]; omega
    · obtain rfl : k = hs.length := by omega
      have hnl : ¬ ((hs.length : Nat) : Int) < (hs.length : Int) := by omega
      rw [List.take_length] at HG hdl
      obtain ⟨g1, c1, e1, hg1⟩ := HG.out.form
      have hyl : (y0 ++ hdL hs).length = st.size + 2 + hsz hs := by rw [List.length_append, hdl, HY0.out]
      obtain ⟨v2, w2, hrun, hG2, hgb2⟩ := appG_str 22 w.heap.size wr _ _ HG.out ⟨#[13, 10]⟩ lr.size (by rw [hyl]; show _ + 2 ≤ _; omega)
      obtain ⟨g2, c2, e2, hg2⟩ := hG2.form
      have l2 := grown_later hgb2 lr lr.size (fun k hk => by rw [e1] at hk; simp [Value.ownBlock] at hk; omega)
      have C2 : w2.heap[w.heap.size]? = some (.cells #[.string st, .slice sa hs.length scp, .slice ba zb.length bcp] 25 (0, 0)) := by
        rw [hgb2.block w.heap.size (Array.getElem?_eq_some_iff.1 CR.out).1 (fun e => by
          rw [e1] at e
          simp [Value.ownBlock] at e
          obtain ⟨_, _, cur, fz, e2, _, hh, _⟩ := HG.out
          rw [e1] at e2
          cases e2
          rw [← e, CR.out] at hh
          cases hh)]
        exact CR.out
      obtain ⟨v3, w3, hrun3, hG3, hgb3⟩ := appG_bytes 22 w.heap.size w.heap.size w2 _ _ hG2 _ zb (hB.below l2) l2.size (by rw [List.length_append, hyl, nmsB_len]; show _ + 2 + _ ≤ _; omega)
      have l3 := grown_later hgb3 l2 l2.size (fun k hk => by rw [e2] at hk; simp [Value.ownBlock] at hk; omega)
      obtain ⟨g3, c3, e3, hg3⟩ := hG3.form
      rw [show y0 ++ hdL hs ++ nmsB ⟨#[13, 10]⟩ ++ zb = tx from HTX.out.symm] at hG3 e3
      have HG3 := hide hG3
      have HRUN := hide hrun
      have HRUN3 := hide hrun3
      have k2 := block_cell C2
      clear hG3 hrun hrun3 hgb2 hgb3 hG2 hdl hyl hle HG
      generalize hn1 : (y0 ++ hdL hs).length = n1 at e1
      generalize hn2 : (y0 ++ hdL hs ++ nmsB ⟨#[13, 10]⟩).length = n2 at e2
      generalize hn3 : tx.length = n3 at e3
      clear hn1 hn2 hn3
      subst e1
      subst e2
      subst e3
      go_wp2_with (at_builtin; refine wpList_appT rfl (.tmp 27) (.const (.string ⟨#[13, 10]⟩)) 22 9 rfl _ _ rfl rfl _ _ HRUN.out ?_; refine Hid.out ?_)
      show wpList _ _ _ _ _ _
      go_wp2_with (at_builtin; go_loud (refine wpList_appT rfl (.tmp 29) (.tmp 31) 22 22 rfl _ _ rfl rfl _ _ HRUN3.out ?_))
      go_ret
      exact ⟨l3, _, rfl, HG3.out⟩
end Go.Proofs.YtehdgndbloaljaaDoor

/- Package sip: Build, Same; the law's few. -/
namespace Go.Proofs.YtehdgndbloaljaaDoor
open Go.RowKit Go.Shelf
set_option maxRecDepth 100000
set_option linter.unusedVariables false
set_option linter.unusedSimpArgs false

theorem rgB_sz {st : ByteArray} {hs : List Hr} {n : Nat} (h : rgB st hs n = true) : szM st hs n ≤ 4096 := by
  unfold rgB at h
  simp only [Bool.and_eq_true, decide_eq_true_eq] at h
  exact h.2.2.2

set_option maxHeartbeats 4000000 in
theorem build14_yes (st : ByteArray) (sv sb : Value) (hs : List Hr) (zb : List Int) (w : World) (hT : TabI w) (hH : RdM w.heap.size w sv hs) (hB : Rd w.heap.size w sb zb) (hz : szM st hs zb.length ≤ 9000000000000000000) (hr : rgB st hs zb.length = true) :
    Calls Tryd.prog 12 #[.agg #[.string st, sv, sb]] w fun e w' => Later w w' ∧ ∃ v, e = .returned (.tuple #[v, .int .i64 0]) ∧ OwG w.heap.size w' v (txM st hs zb) := by
  obtain ⟨sa, scp, rfl, hsc1, hsc2⟩ := hH.slice
  obtain ⟨ba, bcp, rfl, hbc1, hbc2⟩ := hB.slice
  have l0 : Later w (w.alloc (.cells #[.string st, .slice sa hs.length scp, .slice ba zb.length bcp] 25)) := later_allocR _ _
  have C0 := hide (heap_alloc_new w (.cells #[.string st, .slice sa hs.length scp, .slice ba zb.length bcp] 25))
  have HR := hide (fun W (l : Later w W) => right14_any st hs _ _ zb W (hT.later l) (hH.later l) (hB.later l) hz)
  rw [hr] at HR
  have hz4 := rgB_sz hr
  have HJ := hide (fun W (l : Later w W) => joined_any st _ _ hs zb W (hH.later l) (hB.later l) hz4)
  clear hr hz4 hz
  generalize txM st hs zb = tx at *
  go_enter Tryd.func12, Tryd.ntmps12
  go_upto_region 1 with fail
  generalize w.alloc _ = w0 at *
  have hgs : w.heap.size ≤ w0.heap.size := l0.size
  generalize w.heap.size = gm at *
  have k0 := block_cell C0.out
  go_wp2_with fail
  refine (HR.out w0 l0).mono ?_
  rintro e w1 ⟨rfl, l1⟩
  clear k0
  have k1 := block_cell (later_keep l1 C0.out)
  go_wp2_with fail
  refine (HJ.out w1 (Later.trans l0 l1)).mono ?_
  rintro e w2 ⟨l2, v, rfl, hG⟩
  clear k1
  obtain ⟨g, c, e, hg⟩ := hG.form
  generalize hn : tx.length = n at e
  subst e
  have HG := hide hG
  have hsz := l1.size
  clear hG hn
  go_wp2_with fail
  exact bodyPost_ret (v := .tuple #[.slice (some ⟨g, 0, none⟩) n c, .int .i64 0]) (by simp [results, Tryd.results12, go_sem]) rfl ⟨Later.trans l0 (l1.trans l2), _, rfl, let ⟨g, cap, cur, fz, e, hb, r⟩ := HG.out; ⟨g, cap, cur, fz, e, by have := l0.size; omega, r⟩⟩

set_option maxHeartbeats 4000000 in
theorem build14_no (st : ByteArray) (sv sb : Value) (hs : List Hr) (zb : List Int) (w : World) (hT : TabI w) (hH : RdM w.heap.size w sv hs) (hB : Rd w.heap.size w sb zb) (hz : szM st hs zb.length ≤ 9000000000000000000) (hr : rgB st hs zb.length = false) :
    Calls Tryd.prog 12 #[.agg #[.string st, sv, sb]] w fun e w' => e = .returned (.tuple #[.slice none 0 0, .int .i64 4]) ∧ Later w w' := by
  obtain ⟨sa, scp, rfl, hsc1, hsc2⟩ := hH.slice
  obtain ⟨ba, bcp, rfl, hbc1, hbc2⟩ := hB.slice
  have l0 : Later w (w.alloc (.cells #[.string st, .slice sa hs.length scp, .slice ba zb.length bcp] 25)) := later_allocR _ _
  have C0 := hide (heap_alloc_new w (.cells #[.string st, .slice sa hs.length scp, .slice ba zb.length bcp] 25))
  have HR := hide (fun W (l : Later w W) => right14_any st hs _ _ zb W (hT.later l) (hH.later l) (hB.later l) hz)
  rw [hr] at HR
  clear hr hz
  go_enter Tryd.func12, Tryd.ntmps12
  go_upto_region 1 with fail
  generalize w.alloc _ = w0 at *
  generalize w.heap.size = gm at *
  have k0 := block_cell C0.out
  go_wp2_with fail
  refine (HR.out w0 l0).mono ?_
  rintro e w1 ⟨rfl, l1⟩
  clear k0
  go_wp2_with fail
  exact bodyPost_ret (v := .tuple #[.slice none 0 0, .int .i64 4]) (by simp [results, Tryd.results12, go_sem]) rfl ⟨rfl, Later.trans l0 l1⟩

theorem RdM.take {n₀ : Nat} {W : World} {a : Option Addr} {n cap : Nat} {l : List Hr} (h : RdM n₀ W (.slice a n cap) l) (k : Nat) (hk : k ≤ l.length) : RdM n₀ W (.slice a k cap) (l.take k) := by
  rcases h with ⟨a', cap', e, rfl, hm, hn⟩ | ⟨b, off, cap', e, hne, hl, hm, hb, hc⟩
  · cases e
    obtain rfl : k = 0 := by simpa using hk
    exact .inl ⟨_, _, rfl, rfl, hm, hn⟩
  · cases e
    by_cases h0 : k = 0
    · subst h0
      exact .inl ⟨_, _, rfl, rfl, hm, fun h => by cases h⟩
    · have hl2 : (l.take k).length = k := by rw [List.length_take]; omega
      refine .inr ⟨b, off, cap, by rw [hl2], fun e => by rw [e] at hl2; simp at hl2; omega, by rw [hl2]; omega, hm, hb, fun j hj i hi => ?_⟩
      rw [hc j (by rw [hl2] at hj; omega) i hi]
      simp

set_option maxHeartbeats 4000000 in
theorem few_any (st : ByteArray) (sv sb : Value) (hs : List Hr) (zb : List Int) (w : World) (hH : RdM w.heap.size w sv hs) (hB : Rd w.heap.size w sb zb) :
    Calls Tryd.prog 11 #[.agg #[.string st, sv, sb]] w fun e w' => Later w w' ∧ ∃ sv', e = .returned (.agg #[.string st, sv', sb]) ∧ RdM w.heap.size w sv' (hs.take 100) := by
  obtain ⟨sa, scp, rfl, hsc1, hsc2⟩ := hH.slice
  obtain ⟨ba, bcp, rfl, hbc1, hbc2⟩ := hB.slice
  have hb4 : Later w ((w.alloc (.cells #[.string st, .slice sa hs.length scp, .slice ba zb.length bcp] 25)).alloc (.cells #[.string ⟨#[]⟩, .slice none 0 0, .slice none 0 0] 25)) := ((Below.refl _ _).alloc (Nat.le_refl _) _).alloc (by simp) _
  have C0 := hide (show ((w.alloc (.cells #[.string st, .slice sa hs.length scp, .slice ba zb.length bcp] 25)).alloc (.cells #[.string ⟨#[]⟩, .slice none 0 0, .slice none 0 0] 25)).heap[w.heap.size]? = some (.cells #[.string st, .slice sa hs.length scp, .slice ba zb.length bcp] 25 (0, 0)) from (Below.heap_alloc _ _ _ (by simp)).trans (heap_alloc_new w _))
  have C1 : Hid (((w.alloc (.cells #[.string st, .slice sa hs.length scp, .slice ba zb.length bcp] 25)).alloc (.cells #[.string ⟨#[]⟩, .slice none 0 0, .slice none 0 0] 25)).heap[w.heap.size + 1]? = some (.cells #[.string ⟨#[]⟩, .slice none 0 0, .slice none 0 0] 25 (0, 0))) := by
    have := heap_alloc_new (w.alloc (.cells #[.string st, .slice sa hs.length scp, .slice ba zb.length bcp] 25)) (.cells #[.string ⟨#[]⟩, .slice none 0 0, .slice none 0 0] 25)
    rw [World.size_alloc] at this
    exact this
  go_enter Tryd.func11, Tryd.ntmps11
  go_upto_region 1 with fail
  generalize (w.alloc (.cells #[.string st, .slice sa hs.length scp, .slice ba zb.length bcp] 25)).alloc (.cells #[.string ⟨#[]⟩, .slice none 0 0, .slice none 0 0] 25) = w4 at *
  generalize hgc : w.heap.size = gc at C0 C1 ⊢
  have k0 := block_cell C0.out
  have HGC := hide hgc
  clear hgc
  by_cases hgt : 100 < hs.length
  · have hgt' : (100 : Int) < (hs.length : Int) := by omega
    obtain ⟨b, off, cap, e, _⟩ := hH.cells (by omega)
    cases e
    have HR := hide (hH.take 100 (by omega))
    rw [HGC.out] at HR
    have f0 := block_frozen C0.out
    have k1 := block_cell C1.out
    have f1 := block_frozen C1.out
    have hcap : ¬ scp = 0 := by omega
    have hcp1 : (100 : Int) ≤ (scp : Int) := by omega
    go_upto_region 3 with fail
    have D0 := heap_set1 C0.out 1 (.slice (some ⟨b, off, none⟩) 100 scp)
    have D1 := hsetS_ne (m := gc) (j := 1) (v := .slice (some ⟨b, off, none⟩) 100 scp) C1.out (by omega)
    have hb1 : But (fun b => b = gc ∨ b = gc + 1) w4 (w4.setCell ⟨gc, 1, none⟩ (.slice (some ⟨b, off, none⟩) 100 scp)) := (But.refl _ _).setCell (.inl rfl) _
    clear k0 f0 k1 f1
    generalize w4.setCell ⟨gc, 1, none⟩ _ = V1 at *
    have D0' : V1.heap[gc]? = some (.cells #[.string st, .slice (some ⟨b, off, none⟩) 100 scp, .slice ba zb.length bcp] 25 (0, 0)) := D0
    have k0 := block_cell D0'
    have k1 := block_cell D1
    have f1 := block_frozen D1
    go_wp2_with fail
    generalize hV : (((V1.setCell ⟨gc + 1, 0, none⟩ _).setCell ⟨gc + 1, 1, none⟩ _).setCell ⟨gc + 1, 2, none⟩ _) = V8
    have hV9 : V8 = putRow V1 (gc + 1) 0 [.string st, .slice (some ⟨b, off, none⟩) 100 scp, .slice ba zb.length bcp] := hV.symm
    have hb8 : But (fun b => b = gc ∨ b = gc + 1) w4 V8 := by rw [hV9]; exact putRow_but (E := fun b => b = gc ∨ b = gc + 1) (n := gc + 1) (.inr rfl) _ _ _ _ hb1
    have p8 := putRow_all [.string st, .slice (some ⟨b, off, none⟩) 100 scp, .slice ba zb.length bcp] D1 rfl
    rw [← hV9] at p8
    clear hV hV9
    have P8 := block_cell p8
    have hw8 : Later w V8 := Below.trans hb4 (hb8.below hb4.size (fun k h e => by have := HGC.out; omega))
    exact bodyPost_ret (v := .agg #[.string st, .slice (some ⟨b, off, none⟩) 100 scp, .slice ba zb.length bcp]) (by simp [results, Tryd.results11, go_sem, P8]) rfl ⟨hw8, _, rfl, by rw [HGC.out]; exact HR.out⟩
  · have hgt' : ¬ (100 : Int) < (hs.length : Int) := by omega
    have HR := hide hH
    rw [show hs = hs.take 100 from (List.take_of_length_le (by omega)).symm] at HR
    rw [show (hs.take 100).length = hs.length from by rw [List.length_take]; omega] at HR
    have k1 := block_cell C1.out
    have f1 := block_frozen C1.out
    go_wp2_with fail
    generalize hV : (((w4.setCell ⟨gc + 1, 0, none⟩ _).setCell ⟨gc + 1, 1, none⟩ _).setCell ⟨gc + 1, 2, none⟩ _) = V8
    have hV9 : V8 = putRow w4 (gc + 1) 0 [.string st, .slice sa hs.length scp, .slice ba zb.length bcp] := hV.symm
    have hb8 : But (fun b => b = gc + 1) w4 V8 := by rw [hV9]; exact putRow_but (E := fun b => b = gc + 1) (n := gc + 1) rfl _ _ _ _ (But.refl _ _)
    have p8 := putRow_all [.string st, .slice sa hs.length scp, .slice ba zb.length bcp] C1.out rfl
    rw [← hV9] at p8
    clear hV hV9
    have P8 := block_cell p8
    have hw8 : Later w V8 := Below.trans hb4 (hb8.below hb4.size (fun k h e => by have := HGC.out; omega))
    exact bodyPost_ret (v := .agg #[.string st, .slice sa hs.length scp, .slice ba zb.length bcp]) (by simp [results, Tryd.results11, go_sem, P8]) rfl ⟨hw8, _, rfl, HR.out⟩

theorem hr_eq (x y x2 y2 : ByteArray) : (eqS x x2 && eqS y y2) = decide ((x, y) = (x2, y2)) := by
  rw [Bool.eq_iff_iff, Bool.and_eq_true, eqS_iff, eqS_iff, decide_eq_true_eq, Prod.mk.injEq]

set_option maxRecDepth 100000 in
set_option maxHeartbeats 4000000 in
theorem equalH_any (va vb : Value) (la lb : List Hr) (w : World) (hA : RdM w.heap.size w va la) (hB : RdM w.heap.size w vb lb) :
    Calls Tryd.prog 25 #[va, vb] w fun e w' => e = .returned (.bool (decide (la = lb))) ∧ Later w w' := by
  obtain ⟨a1, c1, rfl, hl1, hm1⟩ := hA.slice
  obtain ⟨a2, c2, rfl, hl2, hm2⟩ := hB.slice
  go_enter Tryd.func25, Tryd.ntmps25
  by_cases hne : la.length = lb.length
  case neg =>
    have h1 : ((la.length : Int) != (lb.length : Int)) = true := by simp; omega
    have HV : Hid (decide (la = lb) = false) := by show _ = _; rw [decide_eq_false_iff_not]; intro e; exact hne (by rw [e])
    go_wp2_with fail
    go_ret
    exact ⟨by rw [HV.out]; rfl, Later.refl _⟩
  have h1 : ((la.length : Int) != (lb.length : Int)) = false := by simp; omega
  have HNE := hide hne
  go_upto_region 4 with fail
  clear h1 hne
  go_loopw [5, 13] (fun jv iv wr => ∃ k : Nat, k ≤ la.length ∧ iv = .int .i64 (k : Int) ∧ Later w wr ∧ Hid (la.take k = lb.take k)) (fun _ iv _ => la.length - (intOf iv).toNat)
  case atStart => exact ⟨0, by omega, rfl, Later.refl _, hide rfl⟩
  case round =>
    obtain ⟨k, hk, rfl, lr, heq⟩ := hrel
    by_cases hlt : k < la.length
    · have hlt' : (k : Int) < (la.length : Int) := by omega
      have hlt2 : k < lb.length := by rw [← HNE.out]; exact hlt
      have hlt2' : (k : Int) < (lb.length : Int) := by omega
      obtain ⟨b, off, cp, e, _, _, hbn, hcs⟩ := (hA.later lr).cells (by omega)
      cases e
      obtain ⟨b2, off2, cp2, e, _, _, hbn2, hcs2⟩ := (hB.later lr).cells (by omega)
      cases e
      have d0 := hcs k hlt 0 (by omega)
      have d1 := hcs k hlt 1 (by omega)
      have e0 := hcs2 k hlt2 0 (by omega)
      have e1 := hcs2 k hlt2 1 (by omega)
      have HS : Hid (la[k] = lb[k] → la.take (k + 1) = lb.take (k + 1)) := fun h => by rw [← List.take_append_getElem hlt, ← List.take_append_getElem hlt2, heq.out, h]
      have HN : Hid (la[k] ≠ lb[k] → decide (la = lb) = false) := fun h => by rw [decide_eq_false_iff_not]; intro e; subst e; exact h rfl
      clear hcs hcs2
      generalize la[k] = r at *
      obtain ⟨x, y⟩ := r
      generalize lb[k] = r2 at *
      obtain ⟨x2, y2⟩ := r2
      simp only [hrc, List.getElem?_cons_zero, List.getElem?_cons_succ, Nat.add_zero] at d0 d1 e0 e1
      by_cases hxy : (x, y) = (x2, y2)
      · have HSS := hide (HS.out hxy)
        cases hxy
        clear HS HN
        go_upto_region 6 with fail
        refine anyR_begin (R := Later) Later.pre Later.drew 9 rfl (by kernel_rfl) (fun V0 hV0 => ?_); have q0 : ∀ v, Later V0 v → v.cell? ⟨b, off + k * 2, none⟩ = some (.string _) := (fun v hv => (hV0.trans hv).cell d0); have q1 : ∀ v, Later V0 v → v.cell? ⟨b, off + k * 2 + 1, none⟩ = some (.string _) := (fun v hv => (hV0.trans hv).cell d1); have q2 : ∀ v, Later V0 v → v.cell? ⟨b2, off2 + k * 2, none⟩ = some (.string _) := (fun v hv => (hV0.trans hv).cell e0); have q3 : ∀ v, Later V0 v → v.cell? ⟨b2, off2 + k * 2 + 1, none⟩ = some (.string _) := (fun v hv => (hV0.trans hv).cell e1); clear d0 d1 e0 e1; refine anyR_val Later.pre 0 rfl (by kernel_rfl) (by kernel_rfl) (by kernel_rfl) (fun _ _ _ _ h => h) rfl ?_; apply Exists.intro; refine ⟨fun v1 hv1 => ?_, ?_⟩; (· (go_simp; rfl)); simp only [Act.put, List.setIfInBounds_toArray, List.set_cons_zero, List.set_cons_succ]; refine anyR_val Later.pre 1 rfl (by kernel_rfl) (by kernel_rfl) (by kernel_rfl) (fun _ _ _ _ h => h) rfl ?_; apply Exists.intro; refine ⟨fun v1 hv1 => ?_, ?_⟩; (· (go_simp; rfl)); simp only [Act.put, List.setIfInBounds_toArray, List.set_cons_zero, List.set_cons_succ]; refine anyR_val Later.pre 2 rfl (by kernel_rfl) (by kernel_rfl) (by kernel_rfl) (fun _ _ _ _ h => h) rfl ?_; apply Exists.intro; refine ⟨fun v1 hv1 => ?_, ?_⟩; (· (go_simp; rfl)); simp only [Act.put, List.setIfInBounds_toArray, List.set_cons_zero, List.set_cons_succ]; refine anyR_val Later.pre 3 rfl (by kernel_rfl) (by kernel_rfl) (by kernel_rfl) (fun _ _ _ _ h => h) rfl ?_; apply Exists.intro; refine ⟨fun v1 hv1 => ?_, ?_⟩; (· (go_simp; rfl)); simp only [Act.put, List.setIfInBounds_toArray, List.set_cons_zero, List.set_cons_succ]; refine anyR_val Later.pre 4 rfl (by kernel_rfl) (by kernel_rfl) (by kernel_rfl) (fun _ _ _ _ h => h) rfl ?_; apply Exists.intro; refine ⟨fun v1 hv1 => ?_, ?_⟩; (· (go_simp; rfl)); simp only [Act.put, List.setIfInBounds_toArray, List.set_cons_zero, List.set_cons_succ]; refine anyR_val Later.pre 5 rfl (by kernel_rfl) (by kernel_rfl) (by kernel_rfl) (fun _ _ _ _ h => h) rfl ?_; apply Exists.intro; refine ⟨fun v1 hv1 => ?_, ?_⟩; (· (go_simp; rfl)); simp only [Act.put, List.setIfInBounds_toArray, List.set_cons_zero, List.set_cons_succ]; refine anyR_val Later.pre 6 rfl (by kernel_rfl) (by kernel_rfl) (by kernel_rfl) (fun _ _ _ _ h => h) rfl ?_; apply Exists.intro; refine ⟨fun v1 hv1 => ?_, ?_⟩; (· (go_simp; rfl)); simp only [Act.put, List.setIfInBounds_toArray, List.set_cons_zero, List.set_cons_succ]; refine anyR_val Later.pre 7 rfl (by kernel_rfl) (by kernel_rfl) (by kernel_rfl) (fun _ _ _ _ h => h) rfl ?_; apply Exists.intro; refine ⟨fun v1 hv1 => ?_, ?_⟩; (· (go_simp; rfl)); simp only [Act.put, List.setIfInBounds_toArray, List.set_cons_zero, List.set_cons_succ]; refine anyR_val Later.pre 8 rfl (by kernel_rfl) (by kernel_rfl) (by kernel_rfl) (fun _ _ _ _ h => h) rfl ?_; apply Exists.intro; refine ⟨fun v1 hv1 => ?_, ?_⟩; (· (go_simp; rfl)); simp only [Act.put, List.setIfInBounds_toArray, List.set_cons_zero, List.set_cons_succ]; clear q0 q1 q2 q3; refine anyR_done (by kernel_rfl) (fun V9 hV9 => ?_)
        go_wp2_with fail
        go_roundw
        case rel => exact ⟨k + 1, by omega, by go_num, lr.trans (hV0.trans hV9), HSS⟩
        case measure => simp [intOf]; omega
      · have HVV := hide (HN.out hxy)
        have hor : (¬ x.toList = x2.toList) ∨ (x.toList = x2.toList ∧ ¬ y.toList = y2.toList) := by
          by_cases hx : x.toList = x2.toList
          · refine .inr ⟨hx, fun hy => hxy ?_⟩
            rw [ByteArray.toList_eq, ByteArray.toList_eq] at hx hy
            rw [ba_ext hx, ba_ext hy]
          · exact .inl hx
        clear HS HN hxy
        rcases hor with hx | ⟨hx, hy⟩
        · go_upto_region 6 with fail
          refine anyR_begin (R := Later) Later.pre Later.drew 9 rfl (by kernel_rfl) (fun V0 hV0 => ?_); have q0 : ∀ v, Later V0 v → v.cell? ⟨b, off + k * 2, none⟩ = some (.string _) := (fun v hv => (hV0.trans hv).cell d0); have q1 : ∀ v, Later V0 v → v.cell? ⟨b, off + k * 2 + 1, none⟩ = some (.string _) := (fun v hv => (hV0.trans hv).cell d1); have q2 : ∀ v, Later V0 v → v.cell? ⟨b2, off2 + k * 2, none⟩ = some (.string _) := (fun v hv => (hV0.trans hv).cell e0); have q3 : ∀ v, Later V0 v → v.cell? ⟨b2, off2 + k * 2 + 1, none⟩ = some (.string _) := (fun v hv => (hV0.trans hv).cell e1); clear d0 d1 e0 e1; refine anyR_val Later.pre 0 rfl (by kernel_rfl) (by kernel_rfl) (by kernel_rfl) (fun _ _ _ _ h => h) rfl ?_; apply Exists.intro; refine ⟨fun v1 hv1 => ?_, ?_⟩; (· (go_simp; rfl)); simp only [Act.put, List.setIfInBounds_toArray, List.set_cons_zero, List.set_cons_succ]; refine anyR_val Later.pre 1 rfl (by kernel_rfl) (by kernel_rfl) (by kernel_rfl) (fun _ _ _ _ h => h) rfl ?_; apply Exists.intro; refine ⟨fun v1 hv1 => ?_, ?_⟩; (· (go_simp; rfl)); simp only [Act.put, List.setIfInBounds_toArray, List.set_cons_zero, List.set_cons_succ]; refine anyR_val Later.pre 2 rfl (by kernel_rfl) (by kernel_rfl) (by kernel_rfl) (fun _ _ _ _ h => h) rfl ?_; apply Exists.intro; refine ⟨fun v1 hv1 => ?_, ?_⟩; (· (go_simp; rfl)); simp only [Act.put, List.setIfInBounds_toArray, List.set_cons_zero, List.set_cons_succ]; refine anyR_val Later.pre 3 rfl (by kernel_rfl) (by kernel_rfl) (by kernel_rfl) (fun _ _ _ _ h => h) rfl ?_; apply Exists.intro; refine ⟨fun v1 hv1 => ?_, ?_⟩; (· (go_simp; rfl)); simp only [Act.put, List.setIfInBounds_toArray, List.set_cons_zero, List.set_cons_succ]; refine anyR_val Later.pre 4 rfl (by kernel_rfl) (by kernel_rfl) (by kernel_rfl) (fun _ _ _ _ h => h) rfl ?_; apply Exists.intro; refine ⟨fun v1 hv1 => ?_, ?_⟩; (· (go_simp; rfl)); simp only [Act.put, List.setIfInBounds_toArray, List.set_cons_zero, List.set_cons_succ]; refine anyR_val Later.pre 5 rfl (by kernel_rfl) (by kernel_rfl) (by kernel_rfl) (fun _ _ _ _ h => h) rfl ?_; apply Exists.intro; refine ⟨fun v1 hv1 => ?_, ?_⟩; (· (go_simp; rfl)); simp only [Act.put, List.setIfInBounds_toArray, List.set_cons_zero, List.set_cons_succ]; refine anyR_val Later.pre 6 rfl (by kernel_rfl) (by kernel_rfl) (by kernel_rfl) (fun _ _ _ _ h => h) rfl ?_; apply Exists.intro; refine ⟨fun v1 hv1 => ?_, ?_⟩; (· (go_simp; rfl)); simp only [Act.put, List.setIfInBounds_toArray, List.set_cons_zero, List.set_cons_succ]; refine anyR_val Later.pre 7 rfl (by kernel_rfl) (by kernel_rfl) (by kernel_rfl) (fun _ _ _ _ h => h) rfl ?_; apply Exists.intro; refine ⟨fun v1 hv1 => ?_, ?_⟩; (· (go_simp; rfl)); simp only [Act.put, List.setIfInBounds_toArray, List.set_cons_zero, List.set_cons_succ]; refine anyR_val Later.pre 8 rfl (by kernel_rfl) (by kernel_rfl) (by kernel_rfl) (fun _ _ _ _ h => h) rfl ?_; apply Exists.intro; refine ⟨fun v1 hv1 => ?_, ?_⟩; (· (go_simp; rfl)); simp only [Act.put, List.setIfInBounds_toArray, List.set_cons_zero, List.set_cons_succ]; clear q0 q1 q2 q3; refine anyR_done (by kernel_rfl) (fun V9 hV9 => ?_)
          go_wp2_with fail
          go_ret
          exact ⟨by rw [HVV.out]; rfl, lr.trans (hV0.trans hV9)⟩
        · go_upto_region 6 with fail
          refine anyR_begin (R := Later) Later.pre Later.drew 9 rfl (by kernel_rfl) (fun V0 hV0 => ?_); have q0 : ∀ v, Later V0 v → v.cell? ⟨b, off + k * 2, none⟩ = some (.string _) := (fun v hv => (hV0.trans hv).cell d0); have q1 : ∀ v, Later V0 v → v.cell? ⟨b, off + k * 2 + 1, none⟩ = some (.string _) := (fun v hv => (hV0.trans hv).cell d1); have q2 : ∀ v, Later V0 v → v.cell? ⟨b2, off2 + k * 2, none⟩ = some (.string _) := (fun v hv => (hV0.trans hv).cell e0); have q3 : ∀ v, Later V0 v → v.cell? ⟨b2, off2 + k * 2 + 1, none⟩ = some (.string _) := (fun v hv => (hV0.trans hv).cell e1); clear d0 d1 e0 e1; refine anyR_val Later.pre 0 rfl (by kernel_rfl) (by kernel_rfl) (by kernel_rfl) (fun _ _ _ _ h => h) rfl ?_; apply Exists.intro; refine ⟨fun v1 hv1 => ?_, ?_⟩; (· (go_simp; rfl)); simp only [Act.put, List.setIfInBounds_toArray, List.set_cons_zero, List.set_cons_succ]; refine anyR_val Later.pre 1 rfl (by kernel_rfl) (by kernel_rfl) (by kernel_rfl) (fun _ _ _ _ h => h) rfl ?_; apply Exists.intro; refine ⟨fun v1 hv1 => ?_, ?_⟩; (· (go_simp; rfl)); simp only [Act.put, List.setIfInBounds_toArray, List.set_cons_zero, List.set_cons_succ]; refine anyR_val Later.pre 2 rfl (by kernel_rfl) (by kernel_rfl) (by kernel_rfl) (fun _ _ _ _ h => h) rfl ?_; apply Exists.intro; refine ⟨fun v1 hv1 => ?_, ?_⟩; (· (go_simp; rfl)); simp only [Act.put, List.setIfInBounds_toArray, List.set_cons_zero, List.set_cons_succ]; refine anyR_val Later.pre 3 rfl (by kernel_rfl) (by kernel_rfl) (by kernel_rfl) (fun _ _ _ _ h => h) rfl ?_; apply Exists.intro; refine ⟨fun v1 hv1 => ?_, ?_⟩; (· (go_simp; rfl)); simp only [Act.put, List.setIfInBounds_toArray, List.set_cons_zero, List.set_cons_succ]; refine anyR_val Later.pre 4 rfl (by kernel_rfl) (by kernel_rfl) (by kernel_rfl) (fun _ _ _ _ h => h) rfl ?_; apply Exists.intro; refine ⟨fun v1 hv1 => ?_, ?_⟩; (· (go_simp; rfl)); simp only [Act.put, List.setIfInBounds_toArray, List.set_cons_zero, List.set_cons_succ]; refine anyR_val Later.pre 5 rfl (by kernel_rfl) (by kernel_rfl) (by kernel_rfl) (fun _ _ _ _ h => h) rfl ?_; apply Exists.intro; refine ⟨fun v1 hv1 => ?_, ?_⟩; (· (go_simp; rfl)); simp only [Act.put, List.setIfInBounds_toArray, List.set_cons_zero, List.set_cons_succ]; refine anyR_val Later.pre 6 rfl (by kernel_rfl) (by kernel_rfl) (by kernel_rfl) (fun _ _ _ _ h => h) rfl ?_; apply Exists.intro; refine ⟨fun v1 hv1 => ?_, ?_⟩; (· (go_simp; rfl)); simp only [Act.put, List.setIfInBounds_toArray, List.set_cons_zero, List.set_cons_succ]; refine anyR_val Later.pre 7 rfl (by kernel_rfl) (by kernel_rfl) (by kernel_rfl) (fun _ _ _ _ h => h) rfl ?_; apply Exists.intro; refine ⟨fun v1 hv1 => ?_, ?_⟩; (· (go_simp; rfl)); simp only [Act.put, List.setIfInBounds_toArray, List.set_cons_zero, List.set_cons_succ]; refine anyR_val Later.pre 8 rfl (by kernel_rfl) (by kernel_rfl) (by kernel_rfl) (fun _ _ _ _ h => h) rfl ?_; apply Exists.intro; refine ⟨fun v1 hv1 => ?_, ?_⟩; (· (go_simp; rfl)); simp only [Act.put, List.setIfInBounds_toArray, List.set_cons_zero, List.set_cons_succ]; clear q0 q1 q2 q3; refine anyR_done (by kernel_rfl) (fun V9 hV9 => ?_)
          go_wp2_with fail
          go_ret
          exact ⟨by rw [HVV.out]; rfl, lr.trans (hV0.trans hV9)⟩
    · obtain rfl : k = la.length := by omega
      have hnl : ¬ ((la.length : Nat) : Int) < (la.length : Int) := by omega
      have hnl2 : ¬ ((la.length : Nat) : Int) < (lb.length : Int) := by have := HNE.out; omega
      have HV : Hid (decide (la = lb) = true) := by show _ = _; rw [decide_eq_true_eq]; have := heq.out; rw [List.take_length] at this; rw [this, HNE.out, List.take_length]
      go_wp2_with fail
      go_ret
      exact ⟨by rw [HV.out]; rfl, lr⟩
end Go.Proofs.YtehdgndbloaljaaDoor

/- Package sip: Same; the law's live. -/
namespace Go.Proofs.YtehdgndbloaljaaDoor
open Go.RowKit Go.Shelf
set_option maxRecDepth 100000
set_option linter.unusedVariables false
set_option linter.unusedSimpArgs false

/-- Two messages are the same. -/
def smM (s1 s2 : ByteArray) (h1 h2 : List Hr) (z1 z2 : List Int) : Bool := eqS s1 s2 && (decide (h1 = h2) && decide (z1 = z2))
theorem smM_self (s : ByteArray) (h : List Hr) (z : List Int) : smM s s h h z z = true := by
  unfold smM
  rw [eqS_iff.2 rfl]
  simp

set_option maxRecDepth 100000 in
set_option maxHeartbeats 4000000 in
theorem same14_any (s1 s2 : ByteArray) (v1 v2 b1 b2 : Value) (h1 h2 : List Hr) (z1 z2 : List Int) (w : World) (hH1 : RdM w.heap.size w v1 h1) (hH2 : RdM w.heap.size w v2 h2) (hB1 : Rd w.heap.size w b1 z1) (hB2 : Rd w.heap.size w b2 z2) (hy1 : Mt.By z1) (hy2 : Mt.By z2) :
    Calls Tryd.prog 13 #[.agg #[.string s1, v1, b1], .agg #[.string s2, v2, b2]] w fun e w' => e = .returned (.bool (smM s1 s2 h1 h2 z1 z2)) ∧ Later w w' := by
  obtain ⟨a1, c1, rfl, _, _⟩ := hH1.slice
  obtain ⟨a2, c2, rfl, _, _⟩ := hH2.slice
  obtain ⟨a3, c3, rfl, _, _⟩ := hB1.slice
  obtain ⟨a4, c4, rfl, _, _⟩ := hB2.slice
  have hb4 : Later w ((w.alloc (.cells #[.string s1, .slice a1 h1.length c1, .slice a3 z1.length c3] 25)).alloc (.cells #[.string s2, .slice a2 h2.length c2, .slice a4 z2.length c4] 25)) := ((Below.refl _ _).alloc (Nat.le_refl _) _).alloc (by simp) _
  have C0 := hide (show ((w.alloc (.cells #[.string s1, .slice a1 h1.length c1, .slice a3 z1.length c3] 25)).alloc (.cells #[.string s2, .slice a2 h2.length c2, .slice a4 z2.length c4] 25)).heap[w.heap.size]? = some (.cells #[.string s1, .slice a1 h1.length c1, .slice a3 z1.length c3] 25 (0, 0)) from (Below.heap_alloc _ _ _ (by simp)).trans (heap_alloc_new w _))
  have C1 : Hid (((w.alloc (.cells #[.string s1, .slice a1 h1.length c1, .slice a3 z1.length c3] 25)).alloc (.cells #[.string s2, .slice a2 h2.length c2, .slice a4 z2.length c4] 25)).heap[w.heap.size + 1]? = some (.cells #[.string s2, .slice a2 h2.length c2, .slice a4 z2.length c4] 25 (0, 0))) := by
    have := heap_alloc_new (w.alloc (.cells #[.string s1, .slice a1 h1.length c1, .slice a3 z1.length c3] 25)) (.cells #[.string s2, .slice a2 h2.length c2, .slice a4 z2.length c4] 25)
    rw [World.size_alloc] at this
    exact this
  have HE := hide (fun W (l : Later w W) => equalH_any _ _ h1 h2 W (hH1.later l) (hH2.later l))
  have HF := hide (fun W (l : Later w W) => equal_any _ _ z1 z2 W hy1 hy2 (hB1.later l) (hB2.later l))
  have HV : Hid (smM s1 s2 h1 h2 z1 z2 = (eqS s1 s2 && (decide (h1 = h2) && decide (z1 = z2)))) := rfl
  have HQ := hide (str_beq s1 s2)
  generalize smM s1 s2 h1 h2 z1 z2 = r at *
  generalize decide (h1 = h2) = q1 at *
  generalize decide (z1 = z2) = q2 at *
  generalize eqS s1 s2 = q0 at *
  clear hH1 hH2 hB1 hB2 hy1 hy2
  go_enter Tryd.func13, Tryd.ntmps13
  go_upto_region 1 with fail
  generalize (w.alloc (.cells #[.string s1, .slice a1 h1.length c1, .slice a3 z1.length c3] 25)).alloc (.cells #[.string s2, .slice a2 h2.length c2, .slice a4 z2.length c4] 25) = w4 at *
  generalize w.heap.size = gc at C0 C1 ⊢
  have k0 := block_cell C0.out
  have k1 := block_cell C1.out
  have hq0 := HQ.out
  cases q0 with
  | false =>
    go_wp2_with fail
    go_ret
    exact ⟨by rw [HV.out]; rfl, hb4⟩
  | true =>
    go_wp2_with fail
    refine (HE.out w4 hb4).mono ?_
    rintro e w5 ⟨rfl, l5⟩
    clear k0 k1
    have k0 := block_cell (later_keep l5 C0.out)
    have k1 := block_cell (later_keep l5 C1.out)
    cases q1 with
    | false =>
      go_wp2_with fail
      go_ret
      exact ⟨by rw [HV.out]; rfl, Later.trans hb4 l5⟩
    | true =>
      go_wp2_with fail
      refine (HF.out w5 (Later.trans hb4 l5)).mono ?_
      rintro e w6 ⟨rfl, rfl⟩
      go_wp2_with fail
      go_ret
      exact ⟨by rw [HV.out]; simp, Later.trans hb4 l5⟩

def lvV : ByteArray := ⟨#[83, 73, 80, 47, 50, 46, 48, 47, 85, 68, 80, 32, 49, 48, 46, 48, 46, 48, 46, 50, 58, 53, 48, 54, 48, 59, 98, 114, 97, 110, 99, 104, 61, 49]⟩
def lvW : ByteArray := ⟨#[83, 73, 80, 47, 50, 46, 48, 47, 85, 68, 80, 32, 49, 46, 50, 46, 51, 46, 52, 58, 55, 48, 48, 48, 59, 98, 114, 97, 110, 99, 104, 61, 49]⟩
def lvH : List Hr := [(⟨#[86, 105, 97]⟩, lvV), (clN, ⟨#[48]⟩)]
theorem lv_rg : rgB ⟨#[65]⟩ lvH 0 = true := by decide +kernel
theorem lv_rw : rwHs (cgOf 167772162 16909060 5060 7000 []) ⟨#[65]⟩ lvH [] = [(⟨#[86, 105, 97]⟩, lvW), (clN, ⟨#[48]⟩)] := by decide +kernel
theorem lv_sz : (txM ⟨#[65]⟩ lvH []).length = 65 := by decide +kernel

theorem rdH_made (W : World) (l : List Hr) (hl : l.length ≤ 1000) : RdM (W.alloc (.cells (hrs l).toArray 53)).heap.size (W.alloc (.cells (hrs l).toArray 53)) (.slice (some ⟨W.heap.size, 0, none⟩) l.length l.length) l := by
  by_cases hn : l = []
  · subst hn
    exact .inl ⟨_, _, rfl, rfl, by simp, fun h => by cases h⟩
  · refine .inr ⟨W.heap.size, 0, l.length, rfl, hn, Nat.le_refl _, by omega, by simp, fun j hj i hi => ?_⟩
    rw [Nat.zero_add, block_cell (heap_alloc_new W _), ← hrs_at l j i hj hi]
    simp
theorem cg_wf {h t p q : Int} {ml : List (Int × Int)} (hh : 0 ≤ h ∧ h ≤ 4294967295) (ht : 0 ≤ t ∧ t ≤ 4294967295) (hp : 0 ≤ p ∧ p ≤ 65535) (hq : 0 ≤ q ∧ q ≤ 65535) (hm : ∀ m ∈ ml, (0 ≤ m.1 ∧ m.1 ≤ 65535) ∧ (0 ≤ m.2 ∧ m.2 ≤ 65535)) : (cgOf h t p q ml).wf :=
  ⟨⟨by have := adB_size h hh; show (adB h).size ≤ _; omega, by have := adB_size t ht; show (adB t).size ≤ _; omega⟩, hp, hq, hm⟩

set_option maxRecDepth 100000 in
set_option maxHeartbeats 4000000 in
theorem live14_any (w : World) (hT : TabI w) (hM : TabM w) :
    Calls Tryd.prog 9 #[] w fun e w' => e = .returned (.bool true) ∧ Later w w' := by
  have l0 : Later w ((w.alloc (.cells (hrs lvH).toArray 53)).alloc (.cells #[.string ⟨#[65]⟩, .slice (some ⟨w.heap.size, 0, none⟩) 2 2, .slice none 0 0] 25)) := ((Below.refl _ _).alloc (Nat.le_refl _) _).alloc (by simp) _
  have hH0 := (rdH_made w lvH (by decide)).later (later_allocR _ (.cells #[.string ⟨#[65]⟩, .slice (some ⟨w.heap.size, 0, none⟩) 2 2, .slice none 0 0] 25))
  have C0 := hide (heap_alloc_new (w.alloc (.cells (hrs lvH).toArray 53)) (.cells #[.string ⟨#[65]⟩, .slice (some ⟨w.heap.size, 0, none⟩) 2 2, .slice none 0 0] 25))
  rw [World.size_alloc] at C0
  have hH0' : Hid (RdM ((w.alloc (.cells (hrs lvH).toArray 53)).alloc (.cells #[.string ⟨#[65]⟩, .slice (some ⟨w.heap.size, 0, none⟩) 2 2, .slice none 0 0] 25)).heap.size ((w.alloc (.cells (hrs lvH).toArray 53)).alloc (.cells #[.string ⟨#[65]⟩, .slice (some ⟨w.heap.size, 0, none⟩) 2 2, .slice none 0 0] 25)) (.slice (some ⟨w.heap.size, 0, none⟩) 2 2) lvH) := hH0
  clear hH0
  go_enter Tryd.func9, Tryd.ntmps9
  go_upto_region 2 with fail
  change Code.wp _ _ _ _ ((w.alloc (.cells (hrs lvH).toArray 53)).alloc (.cells #[.string ⟨#[65]⟩, .slice (some ⟨w.heap.size, 0, none⟩) 2 2, .slice none 0 0] 25))
  generalize (w.alloc (.cells (hrs lvH).toArray 53)).alloc (.cells #[.string ⟨#[65]⟩, .slice (some ⟨w.heap.size, 0, none⟩) 2 2, .slice none 0 0] 25) = w1 at *
  generalize w.heap.size = gc at *
  have k0 := block_cell C0.out
  have HRW := hide (rewrite14_any 167772162 16909060 5060 7000 [] (.slice none 0 0) ⟨#[65]⟩ (.slice (some ⟨gc, 0, none⟩) 2 2) (.slice none 0 0) lvH [] w1 (hT.later l0) (hM.later l0) (by decide) (by decide) (cg_wf (by decide) (by decide) (by decide) (by decide) (fun m hm => by cases hm)) (.inl ⟨none, 0, rfl, rfl, by omega⟩) hH0'.out (.inl ⟨none, 0, rfl, rfl, by omega, fun _ => rfl⟩) (by decide) (by decide) (by decide +kernel))
  rw [lv_rw] at HRW
  have HBD := hide (fun W (l : Later w1 W) => build14_yes ⟨#[65]⟩ (.slice (some ⟨gc, 0, none⟩) 2 2) (.slice none 0 0) lvH [] W (hT.later (Later.trans l0 l)) (hH0'.out.later l) (.inl ⟨none, 0, rfl, rfl, by omega, fun _ => rfl⟩) (by decide +kernel) lv_rg)
  generalize rwZb (cgOf 167772162 16909060 5060 7000 []) ⟨#[65]⟩ lvH [] = rz at *
  go_wp2_with fail
  refine HRW.out.mono ?_
  rintro e w2 ⟨l2, vh, vb, rfl, hrow, hO⟩
  obtain ⟨va, vc, rfl⟩ := owns_form hrow
  obtain ⟨xa, xc, rfl, _, _⟩ := hO.slice
  clear k0
  have la := later_allocR w2 (.cells #[.string ⟨#[65]⟩, .slice va 2 vc, .slice xa rz.length xc] 25)
  have C1 := hide (heap_alloc_new w2 (.cells #[.string ⟨#[65]⟩, .slice va 2 vc, .slice xa rz.length xc] 25))
  have HR2 := hide ((ownM_rd hrow).later la)
  go_upto_region 3 with fail
  have K3 : Later w1 (w2.alloc (.cells #[.string ⟨#[65]⟩, .slice va 2 vc, .slice xa rz.length xc] 25)) := Later.trans l2 la
  change Code.wp _ _ _ _ (w2.alloc (.cells #[.string ⟨#[65]⟩, .slice va 2 vc, .slice xa rz.length xc] 25))
  generalize w2.alloc (.cells #[.string ⟨#[65]⟩, .slice va 2 vc, .slice xa rz.length xc] 25) = w3 at *
  have hgn : [((⟨#[86, 105, 97]⟩, lvW) : Hr), (clN, ⟨#[48]⟩)].length = 2 := rfl
  generalize w2.heap.size = gn at *
  have k1 := block_cell (later_keep K3 C0.out)
  go_wp2_with fail
  refine (HBD.out w3 K3).mono ?_
  rintro e w4 ⟨l4, v, rfl, hG⟩
  obtain ⟨g, c, e, hg⟩ := hG.form
  rw [lv_sz] at e
  subst e
  clear k1 hG HBD HRW
  have D1 := later_keep l4 C1.out
  have kN := block_cell D1
  obtain ⟨b, off, cp, e, _, _, hbn, hcs⟩ := (HR2.out.later l4).cells (by decide)
  obtain ⟨rfl, rfl⟩ : va = some ⟨b, off, none⟩ ∧ vc = cp := by injection e with h1 h2 h3; exact ⟨h1, h3⟩
  have d1 := hcs 0 (by decide) 1 (by decide)
  have d1' : w4.cell? ⟨b, off + 1, none⟩ = some (.string lvW) := by have := d1; rw [Nat.zero_mul, Nat.add_zero] at this; exact this
  unfold lvW at d1'
  clear hcs d1 e
  go_wp2_with fail
  go_ret
  exact ⟨rfl, Later.trans l0 (Later.trans K3 l4)⟩
end Go.Proofs.YtehdgndbloaljaaDoor

/- A text cut at the first of another: where it is. -/
namespace Go.Proofs.YtehdgndbloaljaaDoor
open Go.RowKit Go.Shelf
set_option maxRecDepth 100000
set_option linter.unusedVariables false
set_option linter.unusedSimpArgs false

theorem cut_uniq {s p a z : ByteArray} (h : s = a ++ (p ++ z)) (hn : Lib.NoOcc s.data.toList p.data.toList a.size) : cutF s p = true ∧ cutA s p = a ∧ cutZ s p = z := by
  have hl : s.data.toList = a.data.toList ++ (p.data.toList ++ z.data.toList) := by rw [h, ba_app, ba_app]
  have ho : Lib.occAt s.data.toList p.data.toList a.size = true := by
    unfold Lib.occAt
    rw [hl, ba_len, List.drop_left, List.isPrefixOf_iff_prefix]
    exact List.prefix_append _ _
  rcases cut_spec s p with ⟨hf, he, hn'⟩ | ⟨_, _, _, hno⟩
  · have ho' : Lib.occAt s.data.toList p.data.toList (cutA s p).size = true := by
      unfold Lib.occAt
      conv => lhs; arg 2; rw [he]
      rw [ba_len, List.drop_left, List.isPrefixOf_iff_prefix]
      exact List.prefix_append _ _
    have hsz : (cutA s p).size = a.size := by
      rcases Nat.lt_trichotomy (cutA s p).size a.size with h1 | h1 | h1
      · rw [hn _ h1] at ho'; cases ho'
      · exact h1
      · rw [hn' _ h1] at ho; cases ho
    rw [hl] at he
    obtain ⟨e1, e2⟩ := List.append_inj he (by rw [← ba_len, ← ba_len, hsz])
    have e3 := List.append_cancel_left e2
    exact ⟨hf, (ba_ext e1).symm, (ba_ext e3).symm⟩
  · have : a.size ≤ s.size := by rw [h, ByteArray.size_append]; omega
    rw [hno _ this] at ho
    cases ho
theorem noOcc1 {a r : List UInt8} {c : UInt8} (h : c ∉ a) : Lib.NoOcc (a ++ r) [c] a.length := fun j hj => by
  unfold Lib.occAt
  have : a[j] ≠ c := fun e => h (e ▸ List.getElem_mem hj)
  rw [List.drop_append_of_le_length (by omega), List.drop_eq_getElem_cons hj, List.cons_append]
  show ((c == a[j]) && _) = false
  rw [beq_false_of_ne (Ne.symm this)]
  rfl
theorem allB_nms (q : Int → Bool) (s : ByteArray) : allB q s = (nmsB s).all q := by
  rw [Bool.eq_iff_iff, List.all_eq_true]
  unfold allB
  rw [decide_eq_true_eq]
  constructor
  · intro h z hz
    obtain ⟨i, hi, rfl⟩ := List.getElem_of_mem hz
    have hi' : i < s.size := by rw [← nmsB_len]; exact hi
    have := h i hi'
    rw [nmsB_at s i hi', List.getElem?_eq_getElem hi] at this
    exact this
  · intro h j hj
    have hj' : j < (nmsB s).length := by rw [nmsB_len]; exact hj
    rw [nmsB_at s j hj, List.getElem?_eq_getElem hj']
    exact h _ (List.getElem_mem hj')
theorem noOccH {a r p : List UInt8} {c : UInt8} (h : c ∉ a) : Lib.NoOcc (a ++ r) (c :: p) a.length := fun j hj => by
  unfold Lib.occAt
  have : a[j] ≠ c := fun e => h (e ▸ List.getElem_mem hj)
  rw [List.drop_append_of_le_length (by omega), List.drop_eq_getElem_cons hj, List.cons_append]
  show ((c == a[j]) && _) = false
  rw [beq_false_of_ne (Ne.symm this)]
  rfl
theorem allB_not {q : Int → Bool} {s : ByteArray} (h : allB q s = true) (c : UInt8) (hc : q (c.toNat : Int) = false) : c ∉ s.data.toList := fun hm => by
  rw [allB_nms, List.all_eq_true] at h
  have := h (c.toNat : Int) (by unfold nmsB; exact List.mem_map.2 ⟨c, hm, rfl⟩)
  rw [hc] at this
  cases this
end Go.Proofs.YtehdgndbloaljaaDoor

/- Package sip: a message's bytes taken apart: mathematics. -/
namespace Go.Proofs.YtehdgndbloaljaaDoor
open Go.RowKit Go.Shelf
set_option maxRecDepth 100000
set_option linter.unusedVariables false
set_option linter.unusedSimpArgs false

/-- What stands behind so many lines. -/
def itZ : Nat → ByteArray → ByteArray
  | 0, t => t
  | k + 1, t => itZ k (cutZ t crB)
theorem itZ_succ (k : Nat) : ∀ t : ByteArray, itZ (k + 1) t = cutZ (itZ k t) crB := by
  induction k with
  | zero => intro t; rfl
  | succ k ih => intro t; exact ih (cutZ t crB)
/-- How many bytes lines have. -/
def tkn (l : List (ByteArray × ByteArray)) : Nat := (l.map fun x => x.1.size + x.2.size).sum
theorem tkn_snoc (l : List (ByteArray × ByteArray)) (x : ByteArray × ByteArray) : tkn (l ++ [x]) = tkn l + (x.1.size + x.2.size) := by unfold tkn; simp
theorem betw_yes {s p : ByteArray} (h : cutF s p = true) : betw s p = p := by
  rcases cut_spec s p with ⟨_, he, _⟩ | ⟨hf, _⟩
  · have hl := congrArg List.length he
    rw [List.length_append, List.length_append, ← ba_len, ← ba_len, ← ba_len, ← ba_len] at hl
    apply ba_ext
    unfold betw
    rw [ba_ext_list, he]
    have e1 : s.size - (cutZ s p).size = (cutA s p).size + p.size := by omega
    rw [e1, ← List.append_assoc, List.take_left' (by rw [List.length_append, ← ba_len, ← ba_len]), List.drop_left' (by rw [← ba_len])]
  · rw [h] at hf; cases hf
theorem betw_no {s p : ByteArray} (h : cutF s p = false) : betw s p = ⟨#[]⟩ := by
  rcases cut_spec s p with ⟨hf, _⟩ | ⟨_, ha, hz, _⟩
  · rw [h] at hf; cases hf
  · apply ba_ext
    unfold betw
    rw [ba_ext_list, ha, hz]
    rw [List.drop_eq_nil_of_le]
    rw [List.length_take]
    have : ByteArray.size ⟨#[]⟩ = 0 := rfl
    omega
theorem cut_all (s p : ByteArray) : s.data.toList = (cutA s p).data.toList ++ ((betw s p).data.toList ++ (cutZ s p).data.toList) := by
  rcases cut_spec s p with ⟨hf, he, _⟩ | ⟨hf, ha, hz, _⟩
  · rw [betw_yes hf]; exact he
  · rw [betw_no hf, ha, hz]; simp
theorem cut_yes {s p : ByteArray} (h : cutF s p = true) : s = cutA s p ++ (p ++ cutZ s p) := by
  apply ba_ext
  rw [ba_app, ba_app]
  have := cut_all s p
  rwa [betw_yes h] at this
theorem cut_no {s p : ByteArray} (h : cutF s p = false) : cutA s p = s ∧ cutZ s p = ⟨#[]⟩ := by
  rcases cut_spec s p with ⟨hf, _⟩ | ⟨_, ha, hz, _⟩
  · rw [h] at hf; cases hf
  · exact ⟨ha, hz⟩
theorem lns_at : ∀ (pre : List (ByteArray × ByteArray)) (x : ByteArray × ByteArray) (ls : List (ByteArray × ByteArray)) (rest : ByteArray), lnsB rest = pre ++ x :: ls → (itZ pre.length rest).size ≠ 0 ∧ x = (cutA (itZ pre.length rest) crB, betw (itZ pre.length rest) crB) ∧ ls = lnsB (cutZ (itZ pre.length rest) crB)
  | [], x, ls, rest, h => by
    have hz : rest.size ≠ 0 := fun hz => by rw [lnsB_nil hz] at h; cases h
    rw [lnsB_cons hz] at h
    simp only [List.nil_append, List.cons.injEq] at h
    exact ⟨hz, h.1.symm, h.2.symm⟩
  | y :: pre, x, ls, rest, h => by
    have hz : rest.size ≠ 0 := fun hz => by rw [lnsB_nil hz] at h; cases h
    rw [lnsB_cons hz] at h
    simp only [List.cons_append, List.cons.injEq] at h
    exact lns_at pre x ls (cutZ rest crB) h.2
theorem lns_end : ∀ (pre : List (ByteArray × ByteArray)) (rest : ByteArray), lnsB rest = pre → (itZ pre.length rest).size = 0
  | [], rest, h => by
    by_cases hz : rest.size = 0
    · exact hz
    · rw [lnsB_cons hz] at h; cases h
  | y :: pre, rest, h => by
    have hz : rest.size ≠ 0 := fun hz => by rw [lnsB_nil hz] at h; cases h
    rw [lnsB_cons hz] at h
    simp only [List.cons.injEq] at h
    exact lns_end pre (cutZ rest crB) h.2
theorem lns_tail : ∀ (pre ls : List (ByteArray × ByteArray)) (rest : ByteArray), lnsB rest = pre ++ ls → rest.data.toList.drop (tkn pre) = (itZ pre.length rest).data.toList ∧ tkn pre + (itZ pre.length rest).size = rest.size
  | [], ls, rest, h => ⟨rfl, by show 0 + rest.size = _; omega⟩
  | y :: pre, ls, rest, h => by
    have hz : rest.size ≠ 0 := fun hz => by rw [lnsB_nil hz] at h; cases h
    rw [lnsB_cons hz] at h
    simp only [List.cons_append, List.cons.injEq] at h
    obtain ⟨h1, h2⟩ := lns_tail pre ls (cutZ rest crB) h.2
    have hc := cut_all rest crB
    have hl := congrArg List.length hc
    rw [List.length_append, List.length_append, ← ba_len, ← ba_len, ← ba_len, ← ba_len] at hl
    have e : tkn (y :: pre) = ((cutA rest crB).size + (betw rest crB).size) + tkn pre := by rw [← h.1]; rfl
    rw [e]
    refine ⟨?_, ?_⟩
    · rw [← List.drop_drop, hc, ← List.append_assoc, List.drop_left' (by rw [List.length_append, ← ba_len, ← ba_len])]
      exact h1
    · show _ + (itZ pre.length (cutZ rest crB)).size = _
      omega
/-- What is left of a text behind lines. -/
theorem lns_left (pre ls : List (ByteArray × ByteArray)) (rest : ByteArray) (h : lnsB rest = pre ++ ls) : rest.extract (tkn pre) rest.size = itZ pre.length rest := by
  apply ba_ext
  rw [ba_ext_list, ba_len rest, List.take_length]
  exact (lns_tail pre ls rest h).1

/-- A header's line, taken apart. -/
def hdO (l : ByteArray) : Hr := (cutA l nmE, cutZ l nmE)
/-- Headers and body of a text. -/
def spF : Nat → ByteArray → Option (List Hr × ByteArray)
  | 0, _ => none
  | n + 1, t => if t.size = 0 then none else if (cutA t crB).size = 0 then some ([], cutZ t crB) else if cutF (cutA t crB) nmE = false then none else (spF n (cutZ t crB)).map fun r => (hdO (cutA t crB) :: r.1, r.2)
def spT (t : ByteArray) : Option (List Hr × ByteArray) := spF t.size t
theorem spF_fuel : ∀ (n m : Nat) (s : ByteArray), s.size ≤ n → s.size ≤ m → spF n s = spF m s
  | 0, 0, s, _, _ => rfl
  | 0, m + 1, s, h, _ => by unfold spF; rw [if_pos (by omega)]
  | n + 1, 0, s, _, h => by unfold spF; rw [if_pos (by omega)]
  | n + 1, m + 1, s, h1, h2 => by
    unfold spF
    split
    · rfl
    · have := (cut_sizes s crB).2 (by assumption) (by decide)
      rw [spF_fuel n m (cutZ s crB) (by omega) (by omega)]
theorem spT_nil {s : ByteArray} (h : s.size = 0) : spT s = none := by unfold spT; rw [h]; rfl
theorem spT_cons {t : ByteArray} (h : t.size ≠ 0) : spT t = if (cutA t crB).size = 0 then some ([], cutZ t crB) else if cutF (cutA t crB) nmE = false then none else (spT (cutZ t crB)).map fun r => (hdO (cutA t crB) :: r.1, r.2) := by
  have hz := (cut_sizes t crB).2 h (by decide)
  have e : spT t = spF (t.size - 1 + 1) t := by unfold spT; congr 1; omega
  rw [e]
  show (if t.size = 0 then none else _) = _
  rw [if_neg h]
  rw [spF_fuel (t.size - 1) (cutZ t crB).size (cutZ t crB) (by omega) (Nat.le_refl _)]
  rfl
theorem spT_noend {t : ByteArray} (h : cutF t crB = false) : spT t = none := by
  by_cases hz : t.size = 0
  · exact spT_nil hz
  · obtain ⟨ha, hb⟩ := cut_no h
    rw [spT_cons hz, ha, if_neg hz]
    split
    · rfl
    · rw [hb, spT_nil (s := ⟨#[]⟩) rfl]; rfl
/-- Headers that were taken already. -/
def ppd (hs : List Hr) (r : Option (List Hr × ByteArray)) : Option (List Hr × ByteArray) := r.map fun r => (hs ++ r.1, r.2)
theorem ppd_nil (r : Option (List Hr × ByteArray)) : ppd [] r = r := by cases r <;> rfl
theorem ppd_one {t : ByteArray} (hs : List Hr) (h : t.size ≠ 0) (h1 : (cutA t crB).size ≠ 0) (h2 : cutF (cutA t crB) nmE = true) : ppd hs (spT t) = ppd (hs ++ [hdO (cutA t crB)]) (spT (cutZ t crB)) := by
  rw [spT_cons h, if_neg h1, if_neg (by rw [h2]; simp)]
  unfold ppd
  cases spT (cutZ t crB) <;> simp
theorem ppd_bad {t : ByteArray} (hs : List Hr) (h : t.size ≠ 0) (h1 : (cutA t crB).size ≠ 0) (h2 : cutF (cutA t crB) nmE = false) : ppd hs (spT t) = none := by
  rw [spT_cons h, if_neg h1, if_pos h2]
  rfl
theorem ppd_end {t : ByteArray} (hs : List Hr) (h : t.size ≠ 0) (h1 : (cutA t crB).size = 0) : ppd hs (spT t) = some (hs, cutZ t crB) := by
  rw [spT_cons h, if_pos h1]
  unfold ppd
  simp
/-- A message of bytes. -/
def prM (s : ByteArray) : Option (ByteArray × List Hr × ByteArray) := (spT (cutZ s crB)).map fun r => (cutA s crB, r.1, r.2)
theorem sp_join : ∀ (n : Nat) (t : ByteArray) (hs : List Hr) (b : ByteArray), spF n t = some (hs, b) → nmsB t = hdL hs ++ nmsB crB ++ nmsB b
  | 0, t, hs, b, h => by cases h
  | n + 1, t, hs, b, h => by
    unfold spF at h
    split at h
    · cases h
    rename_i hz
    split at h
    · rename_i ha
      cases h
      cases hf : cutF t crB with
      | false => rw [(cut_no hf).1] at ha; exact absurd ha hz
      | true =>
        have := cut_yes hf
        rw [str_empty _ ha, bnil_app] at this
        conv => lhs; rw [this]
        rw [nmsB_app]
        rfl
    split at h
    · cases h
    rename_i ha hm
    have hm' : cutF (cutA t crB) nmE = true := by simpa using hm
    cases hr : spF n (cutZ t crB) with
    | none => rw [hr] at h; cases h
    | some r =>
      rw [hr] at h
      cases h
      have ih := sp_join n (cutZ t crB) r.1 r.2 hr
      have hf : cutF t crB = true := by
        cases hf : cutF t crB with
        | true => rfl
        | false =>
          rw [(cut_no hf).2] at hr
          cases n with
          | zero => cases hr
          | succ n => unfold spF at hr; cases hr
      have h1 := cut_yes hf
      have h2 := cut_yes hm'
      conv => lhs; rw [h1]
      rw [nmsB_app, nmsB_app, ih]
      have e : hdL (hdO (cutA t crB) :: r.1) = nmsB (cutA t crB) ++ nmsB crB ++ hdL r.1 := by
        show nmsB (hdB (hdO (cutA t crB))) ++ hdL r.1 = _
        congr 1
        conv => rhs; rw [h2]
        unfold hdB hdO
        rw [nmsB_app, nmsB_app, nmsB_app, nmsB_app, nmsB_app]
        simp only [List.append_assoc]
      rw [e]
      simp only [List.append_assoc]
/-- What was taken apart, put together. -/
theorem pr_join {s st : ByteArray} {hs : List Hr} {b : ByteArray} (h : prM s = some (st, hs, b)) : txM st hs (nmsB b) = nmsB s := by
  unfold prM at h
  cases hr : spT (cutZ s crB) with
  | none => rw [hr] at h; cases h
  | some r =>
    rw [hr] at h
    cases h
    have hj := sp_join _ _ r.1 r.2 hr
    have hf : cutF s crB = true := by
      cases hf : cutF s crB with
      | true => rfl
      | false => rw [(cut_no hf).2, spT_nil (s := ⟨#[]⟩) rfl] at hr; cases hr
    have h1 := cut_yes hf
    conv => rhs; rw [h1]
    unfold txM
    rw [nmsB_app, nmsB_app, nmsB_app, hj]
    simp only [List.append_assoc]
/-- Headers and body as a text. -/
def tlB : List Hr → ByteArray → ByteArray
  | [], b => crB ++ b
  | h :: hs, b => (h.1 ++ (nmE ++ h.2)) ++ (crB ++ tlB hs b)
def txB (st : ByteArray) (hs : List Hr) (b : ByteArray) : ByteArray := st ++ (crB ++ tlB hs b)
theorem tlB_nms : ∀ (hs : List Hr) (b : ByteArray), nmsB (tlB hs b) = hdL hs ++ nmsB crB ++ nmsB b
  | [], b => by show nmsB (crB ++ b) = _; rw [nmsB_app]; rfl
  | h :: hs, b => by
    show nmsB ((h.1 ++ (nmE ++ h.2)) ++ (crB ++ tlB hs b)) = _
    rw [nmsB_app, nmsB_app, nmsB_app, nmsB_app, tlB_nms hs b]
    have e : hdL (h :: hs) = nmsB (hdB h) ++ hdL hs := rfl
    rw [e]
    unfold hdB
    rw [nmsB_app, nmsB_app, nmsB_app]
    simp only [List.append_assoc]
theorem txB_nms (st : ByteArray) (hs : List Hr) (b : ByteArray) : nmsB (txB st hs b) = txM st hs (nmsB b) := by
  unfold txB txM
  rw [nmsB_app, nmsB_app, nmsB_app, tlB_nms]
  simp only [List.append_assoc]
/-- No end of a line in it. -/
def Pl (s : ByteArray) : Prop := (13 : UInt8) ∉ s.data.toList
theorem cut_line {a z : ByteArray} (h : Pl a) : cutF (a ++ (crB ++ z)) crB = true ∧ cutA (a ++ (crB ++ z)) crB = a ∧ cutZ (a ++ (crB ++ z)) crB = z :=
  cut_uniq rfl (by rw [ba_app, ba_len]; exact noOccH h)
theorem cut_head {a z : ByteArray} (h : (58 : UInt8) ∉ a.data.toList) : cutF (a ++ (nmE ++ z)) nmE = true ∧ cutA (a ++ (nmE ++ z)) nmE = a ∧ cutZ (a ++ (nmE ++ z)) nmE = z :=
  cut_uniq rfl (by rw [ba_app, ba_len]; exact noOccH h)
theorem sp_build : ∀ (hs : List Hr) (b : ByteArray), (∀ h ∈ hs, Pl h.1 ∧ Pl h.2 ∧ (58 : UInt8) ∉ h.1.data.toList) → spT (tlB hs b) = some (hs, b)
  | [], b, _ => by
    have e : tlB [] b = ⟨#[]⟩ ++ (crB ++ b) := (bnil_app _).symm
    obtain ⟨h1, h2, h3⟩ := cut_line (a := ⟨#[]⟩) (z := b) (by unfold Pl; simp)
    rw [e, spT_cons (by rw [ByteArray.size_append, ByteArray.size_append]; have : crB.size = 2 := rfl; omega), h2, h3, if_pos (show ByteArray.size ⟨#[]⟩ = 0 from rfl)]
  | h :: hs, b, hh => by
    obtain ⟨p1, p2, p3⟩ := hh h (List.mem_cons_self ..)
    have ih := sp_build hs b (fun x hx => hh x (List.mem_cons_of_mem _ hx))
    have hp : Pl (h.1 ++ (nmE ++ h.2)) := by
      unfold Pl at *
      rw [ba_app, ba_app]
      intro hm
      rcases List.mem_append.1 hm with q | q
      · exact p1 q
      · rcases List.mem_append.1 q with q | q
        · exact absurd q (by decide)
        · exact p2 q
    obtain ⟨h1, h2, h3⟩ := cut_line (z := tlB hs b) hp
    obtain ⟨g1, g2, g3⟩ := cut_head (z := h.2) p3
    have hs2 : nmE.size = 2 := rfl
    have hc2 : crB.size = 2 := rfl
    show spT ((h.1 ++ (nmE ++ h.2)) ++ (crB ++ tlB hs b)) = _
    rw [spT_cons (by rw [ByteArray.size_append, ByteArray.size_append, ByteArray.size_append]; omega), h2, h3, if_neg (by rw [ByteArray.size_append, ByteArray.size_append]; omega), if_neg (by rw [g1]; simp), ih]
    show some (hdO (h.1 ++ (nmE ++ h.2)) :: hs, b) = _
    unfold hdO
    rw [g2, g3]
theorem okh_pl {n : Nat} {h : Hr} (ho : okh n h = true) : Pl h.1 ∧ Pl h.2 ∧ (58 : UInt8) ∉ h.1.data.toList := by
  unfold okh allN vlB at ho
  simp only [Bool.and_eq_true] at ho
  obtain ⟨⟨h1, _⟩, ⟨h2, _⟩, _⟩ := ho
  exact ⟨allB_not h1 13 (by decide +kernel), allB_not h2 13 (by decide +kernel), allB_not h1 58 (by decide +kernel)⟩
/-- What was put together, taken apart. -/
theorem pr_build {st : ByteArray} {hs : List Hr} {b : ByteArray} (h : rgB st hs b.size = true) : prM (txB st hs b) = some (st, hs, b) := by
  unfold rgB rhB at h
  simp only [Bool.and_eq_true, List.all_eq_true] at h
  obtain ⟨h1, _, ⟨_, h2, _⟩, _⟩ := h
  obtain ⟨c1, c2, c3⟩ := cut_line (a := st) (z := tlB hs b) (allB_not h1 13 (by decide +kernel))
  unfold prM txB
  rw [c2, c3, sp_build hs b (fun x hx => okh_pl (h2 x hx))]
  rfl
theorem str_nms (s : ByteArray) : strOfNums (nmsB s) = s := by
  apply ba_ext
  have h1 := nmsB_str (nmsB s) (nmsB_by s)
  unfold nmsB at h1
  refine List.map_inj_right (f := fun b : UInt8 => (b.toNat : Int)) (fun a b h => ?_) |>.1 h1
  have h' : (a.toNat : Int) = (b.toNat : Int) := h
  exact UInt8.toNat_inj.1 (by omega)
theorem pr_size {s st : ByteArray} {hs : List Hr} {b : ByteArray} (h : prM s = some (st, hs, b)) : szM st hs b.size = s.size := by
  have := congrArg List.length (pr_join h)
  rwa [txM_len, nmsB_len, nmsB_len] at this

/-- What Parse tells: the error, and the message. -/
def paO (zb : List Int) : Option (ByteArray × List Hr × ByteArray) := match prM (strOfNums zb) with
  | none => none
  | some (st, hs, b) => if rgB st hs b.size = true then some (st, hs, b) else none
def paE (zb : List Int) : Int := if 4096 < zb.length then 8 else if (paO zb).isSome = true then 0 else 4
def paM (zb : List Int) : ByteArray × List Hr × ByteArray := if 4096 < zb.length then (⟨#[]⟩, [], ⟨#[]⟩) else (paO zb).getD (⟨#[]⟩, [], ⟨#[]⟩)
theorem paM_long {zb : List Int} (h : 4096 < zb.length) : paE zb = 8 ∧ paM zb = (⟨#[]⟩, [], ⟨#[]⟩) := by unfold paE paM; rw [if_pos h, if_pos h]; exact ⟨rfl, rfl⟩
theorem paM_none {zb : List Int} (h : ¬ 4096 < zb.length) (hp : paO zb = none) : paE zb = 4 ∧ paM zb = (⟨#[]⟩, [], ⟨#[]⟩) := by unfold paE paM; rw [if_neg h, if_neg h, hp]; exact ⟨rfl, rfl⟩
theorem paM_some {zb : List Int} (h : ¬ 4096 < zb.length) {st : ByteArray} {hs : List Hr} {b : ByteArray} (hp : paO zb = some (st, hs, b)) : paE zb = 0 ∧ paM zb = (st, hs, b) := by unfold paE paM; rw [if_neg h, if_neg h, hp]; exact ⟨rfl, rfl⟩
theorem paO_none {zb : List Int} (h : prM (strOfNums zb) = none) : paO zb = none := by unfold paO; rw [h]
theorem paO_wrong {zb : List Int} {st : ByteArray} {hs : List Hr} {b : ByteArray} (h : prM (strOfNums zb) = some (st, hs, b)) (hr : rgB st hs b.size = false) : paO zb = none := by unfold paO; rw [h]; simp [hr]
theorem paO_right {zb : List Int} {st : ByteArray} {hs : List Hr} {b : ByteArray} (h : prM (strOfNums zb) = some (st, hs, b)) (hr : rgB st hs b.size = true) : paO zb = some (st, hs, b) := by unfold paO; rw [h]; simp [hr]
theorem paE_iff (zb : List Int) : paE zb = 0 ↔ ¬ 4096 < zb.length ∧ ∃ m, paO zb = some m := by
  unfold paE
  by_cases h : 4096 < zb.length
  · rw [if_pos h]; simp [h]
  · rw [if_neg h]
    cases hp : paO zb with
    | none => simp
    | some m => simp [h]
/-- Parse of Build. -/
theorem pa_build {st : ByteArray} {hs : List Hr} {zb : List Int} (hy : Mt.By zb) (h : rgB st hs zb.length = true) : paE (txM st hs zb) = 0 ∧ paM (txM st hs zb) = (st, hs, strOfNums zb) := by
  have hsz := rgB_sz h
  have e1 : nmsB (strOfNums zb) = zb := nmsB_str zb hy
  have e2 : (strOfNums zb).size = zb.length := strOfNums_size zb
  have h' : rgB st hs (strOfNums zb).size = true := by rw [e2]; exact h
  have e3 : strOfNums (txM st hs zb) = txB st hs (strOfNums zb) := by
    rw [← str_nms (txB st hs (strOfNums zb)), txB_nms, e1]
  refine paM_some (by rw [txM_len]; omega) (paO_right ?_ h')
  rw [e3, pr_build h']
/-- Build of Parse. -/
theorem build_pa {zb : List Int} (hy : Mt.By zb) (h : paE zb = 0) : rgB (paM zb).1 (paM zb).2.1 (paM zb).2.2.size = true ∧ txM (paM zb).1 (paM zb).2.1 (nmsB (paM zb).2.2) = zb := by
  obtain ⟨hl, m, hm⟩ := (paE_iff zb).1 h
  obtain ⟨st, hs, b⟩ := m
  rw [(paM_some hl hm).2]
  unfold paO at hm
  cases hp : prM (strOfNums zb) with
  | none => rw [hp] at hm; cases hm
  | some r =>
    obtain ⟨st', hs', b'⟩ := r
    rw [hp] at hm
    simp only at hm
    split at hm
    · rename_i hr
      cases hm
      refine ⟨hr, ?_⟩
      have := pr_join hp
      rwa [nmsB_str zb hy] at this
    · cases hm
end Go.Proofs.YtehdgndbloaljaaDoor

/- The first two signs of a kind in a text: mathematics. -/
namespace Go.Proofs.YtehdgndbloaljaaDoor
open Go.RowKit Go.Shelf
set_option maxRecDepth 100000
set_option linter.unusedVariables false
set_option linter.unusedSimpArgs false

theorem occ2 (s : List UInt8) (a b : UInt8) (j : Nat) : Lib.occAt s [a, b] j = true ↔ s[j]? = some a ∧ s[j + 1]? = some b := by
  have e0 : s[j]? = (s.drop j)[0]? := by rw [List.getElem?_drop]; rfl
  have e1 : s[j + 1]? = (s.drop j)[1]? := by rw [List.getElem?_drop]
  unfold Lib.occAt
  rw [e0, e1]
  rcases s.drop j with _ | ⟨x, _ | ⟨y, t⟩⟩
  · simp [List.isPrefixOf]
  · simp [List.isPrefixOf]
  · show ((a == x) && ((b == y) && true)) = true ↔ _
    rw [Bool.and_eq_true, Bool.and_true, beq_iff_eq, beq_iff_eq]
    simp only [List.getElem?_cons_zero, List.getElem?_cons_succ, Option.some.injEq]
    constructor <;> rintro ⟨rfl, rfl⟩ <;> exact ⟨rfl, rfl⟩
theorem bAt_of (s : ByteArray) (j : Nat) (c : UInt8) (h : j < s.size) : s.data.toList[j]? = some c ↔ bAt s j = (c.toNat : Int) := by
  have h' : j < s.data.toList.length := by rw [Array.length_toList]; exact h
  have e : s.get! j = s.data.toList[j] := by
    simp only [ByteArray.get!]
    rw [getElem!_pos s.data j h]
    simp
  rw [List.getElem?_eq_getElem h']
  unfold bAt
  rw [e]
  constructor
  · intro h; cases h; rfl
  · intro h; congr 1; exact UInt8.toNat_inj.1 (by omega)
/-- No such two ahead. -/
def No2 (s : ByteArray) (a b : Int) (i : Nat) : Prop := ∀ j, j < i → j + 1 < s.size → ¬ (bAt s j = a ∧ bAt s (j + 1) = b)
theorem No2.succ {s : ByteArray} {a b : Int} {i : Nat} (h : No2 s a b i) (hi : ¬ (bAt s i = a ∧ bAt s (i + 1) = b)) : No2 s a b (i + 1) := fun j hj hl => by
  rcases Nat.lt_or_eq_of_le (Nat.lt_succ_iff.1 hj) with q | rfl
  · exact h j q hl
  · exact hi
theorem occ2_no {s : ByteArray} {a b : UInt8} {j : Nat} (h : j + 1 < s.size → ¬ (bAt s j = (a.toNat : Int) ∧ bAt s (j + 1) = (b.toNat : Int))) : Lib.occAt s.data.toList [a, b] j = false := by
  cases hc : Lib.occAt s.data.toList [a, b] j with
  | false => rfl
  | true =>
    obtain ⟨h1, h2⟩ := (occ2 _ _ _ _).1 hc
    have hl : j + 1 < s.size := by
      have := (List.getElem?_eq_some_iff.1 h2).1
      rwa [Array.length_toList] at this
    exact absurd ⟨(bAt_of s j a (by omega)).1 h1, (bAt_of s (j + 1) b hl).1 h2⟩ (h hl)
theorem cut2_yes {s : ByteArray} {a b : UInt8} {i : Nat} (hi : i + 1 < s.size) (h1 : bAt s i = (a.toNat : Int)) (h2 : bAt s (i + 1) = (b.toNat : Int)) (hn : No2 s (a.toNat : Int) (b.toNat : Int) i) :
    cutF s ⟨#[a, b]⟩ = true ∧ cutA s ⟨#[a, b]⟩ = s.extract 0 i ∧ cutZ s ⟨#[a, b]⟩ = s.extract (i + 2) s.size := by
  have hl : s.data.toList.length = s.size := by rw [Array.length_toList]; rfl
  have g1 := (bAt_of s i a (by omega)).2 h1
  have g2 := (bAt_of s (i + 1) b hi).2 h2
  have es : (s.extract 0 i).size = i := by rw [ByteArray.size_extract]; omega
  refine cut_uniq ?_ ?_
  · apply ba_ext
    rw [ba_app, ba_app, ba_ext_list, ba_ext_list, List.drop_zero]
    have e1 : s.data.toList.take s.size = s.data.toList := by rw [← hl, List.take_length]
    rw [e1]
    have q1 : i < s.data.toList.length := by omega
    have q2 : i + 1 < s.data.toList.length := by omega
    rw [List.getElem?_eq_getElem q1] at g1
    rw [List.getElem?_eq_getElem q2] at g2
    conv => lhs; rw [← List.take_append_drop i s.data.toList, List.drop_eq_getElem_cons q1, List.drop_eq_getElem_cons q2]
    cases g1
    cases g2
    rfl
  · rw [es]
    exact fun j hj => occ2_no (fun hl => hn j hj hl)
theorem cut2_no {s : ByteArray} {a b : UInt8} {i : Nat} (hi : s.size ≤ i + 1) (hn : No2 s (a.toNat : Int) (b.toNat : Int) i) : cutF s ⟨#[a, b]⟩ = false := by
  cases hf : cutF s ⟨#[a, b]⟩ with
  | false => rfl
  | true =>
    have ho : Lib.occAt s.data.toList [a, b] (cutA s ⟨#[a, b]⟩).size = true := by
      rcases cut_spec s ⟨#[a, b]⟩ with ⟨_, he, _⟩ | ⟨hf', _⟩
      · unfold Lib.occAt
        conv => lhs; arg 2; rw [he]
        rw [ba_len, List.drop_left, List.isPrefixOf_iff_prefix]
        exact List.prefix_append _ _
      · rw [hf] at hf'; cases hf'
    rw [occ2_no (fun hl => hn _ (by omega) hl)] at ho
    cases ho
end Go.Proofs.YtehdgndbloaljaaDoor

/- The document's cut: a line, and what is behind its end. -/
namespace Go.Proofs.YtehdgndbloaljaaDoor
open Go.RowKit Go.Shelf
set_option maxRecDepth 100000
set_option linter.unusedVariables false
set_option linter.unusedSimpArgs false

/-- What the document's cut tells. -/
def RcQ (n₀ : Nat) (s : ByteArray) (W : World) (v : Value) : Prop :=
  (cutF s crB = true ∧ ∃ vb, v = .tuple #[.string (cutA s crB), vb, .bool true] ∧ Rd n₀ W vb (nmsB (cutZ s crB))) ∨
  (cutF s crB = false ∧ v = .tuple #[.string ⟨#[]⟩, .slice none 0 0, .bool false])
theorem str_take (zb : List Int) (i : Nat) (hi : i ≤ zb.length) : (strOfNums zb).extract 0 i = strOfNums (zb.take i) := by
  apply ba_ext
  rw [ba_ext_list, strOfNums_data, strOfNums_data, List.drop_zero, List.map_take]
theorem str_drop (zb : List Int) (i : Nat) : (strOfNums zb).extract i (strOfNums zb).size = strOfNums (zb.drop i) := by
  apply ba_ext
  rw [ba_ext_list, strOfNums_data, strOfNums_data, strOfNums_size, ← List.map_take, List.take_length, List.map_drop]
theorem by_drop {zb : List Int} (hy : Mt.By zb) (i : Nat) : Mt.By (zb.drop i) := fun z hz => hy z (List.mem_of_mem_drop hz)

set_option maxRecDepth 100000 in
set_option maxHeartbeats 8000000 in
theorem rcut_any (n₀ : Nat) (sb : Value) (zb : List Int) (w : World) (hn₀ : n₀ ≤ w.heap.size) (hB : Rd n₀ w sb zb) (hy : Mt.By zb) (hz : zb.length ≤ 1000000) :
    Calls Tryd.prog 21 #[sb] w fun e w' => Later w w' ∧ ∃ v, e = .returned v ∧ RcQ n₀ (strOfNums zb) w' v := by
  obtain ⟨ba, cp, rfl, hc1, hc2⟩ := hB.slice
  have hss : (strOfNums zb).size = zb.length := strOfNums_size zb
  go_enter Tryd.func21, Tryd.ntmps21
  go_upto_region 2 with fail
  go_loopw [5] (fun iv wr => ∃ i : Nat, i ≤ zb.length ∧ iv = .int .i64 (i : Int) ∧ wr = w ∧ Hid (No2 (strOfNums zb) 13 10 i)) (fun iv _ => zb.length - (intOf iv).toNat)
  case atStart => exact ⟨0, by omega, rfl, rfl, fun j hj => by omega⟩
  case round =>
    obtain ⟨i, hi, rfl, rfl, HN⟩ := hrel
    by_cases hlt : i + 1 < zb.length
    · have hlt' : (i : Int) + 1 < (zb.length : Int) := by omega
      have hb0 := strOf_at zb hy i (by omega)
      have hb1 := strOf_at zb hy (i + 1) hlt
      have hB' := hB
      rcases hB with ⟨_, _, _, rfl, _⟩ | ⟨b, off, cap, e, hne, hl, hm, hbn, hc⟩
      · simp at hlt
      cases e
      have d0 : wr.cell? ⟨b, off + i, none⟩ = some (.int .u8 (zb[i]?.getD 0)) := by rw [hc i (by omega), List.getElem?_eq_getElem (by omega)]
      have d1 : wr.cell? ⟨b, off + (i + 1), none⟩ = some (.int .u8 (zb[i + 1]?.getD 0)) := by rw [hc (i + 1) hlt, List.getElem?_eq_getElem hlt]
      generalize zb[i]?.getD 0 = x0 at *
      generalize zb[i + 1]?.getD 0 = x1 at *
      have HC : Hid (x0 = 13 → x1 = 10 → cutF (strOfNums zb) crB = true ∧ cutA (strOfNums zb) crB = strOfNums (zb.take i) ∧ cutZ (strOfNums zb) crB = strOfNums (zb.drop (i + 2))) := fun h0 h1 => by
        have := cut2_yes (s := strOfNums zb) (a := 13) (b := 10) (i := i) (by omega) (by rw [hb0, h0]; rfl) (by rw [hb1, h1]; rfl) HN.out
        rw [str_take zb i (by omega), str_drop] at this
        exact this
      have HS : Hid (¬ (x0 = 13 ∧ x1 = 10) → No2 (strOfNums zb) 13 10 (i + 1)) := fun h => HN.out.succ (by rw [hb0, hb1]; exact h)
      clear hb0 hb1 hc HN
      by_cases h0 : x0 = 13
      · by_cases h1 : x1 = 10
        · have HCC := hide (HC.out h0 h1)
          have HT := hide (hB'.take i (by omega))
          have HD := hide (Rd.drop (i + 2) (by omega) hB')
          have hby := hide (by_drop hy (i + 2))
          subst h0 h1
          clear HC HS
          have hcp1 : (i : Int) ≤ (cp : Int) := by omega
          have hcp2 : (i : Int) + 2 ≤ (zb.length : Int) := by omega
          have hcp3 : (cp : Int) ≤ 9223372036854775807 := by omega
          have hkw : Hid (IntKind.i64.wrap ((i : Int) + 2) = ((i + 2 : Nat) : Int)) := by (show _ = _); rw [IntKind.wrap_i64]; omega
          have hk2 : i + 2 ≤ zb.length := by omega
          generalize hkk : i + 2 = kk at *
          clear hkk
          have hk3 : (kk : Int) ≤ (zb.length : Int) := by omega
          have hk4 : (kk : Int) ≤ 9223372036854775807 := by omega
          go_upto_region 5 with fail
          clear d0 d1
          have hcv := fun W (l : Later wr W) => conv_rd 22 9 5 Tryd.underlying22 Tryd.underlying5 Tryd.underlying9 (HT.out.below (l.mono hn₀))
          refine anyR_begin (R := Later) Later.pre Later.drew 11 rfl (by kernel_rfl) (fun V0 hV0 => ?_)
          have qcv : ∀ v, Later V0 v → (convert 22 9 (.slice (some ⟨b, off, none⟩) i cp)).run Tryd.prog v = .ok (.string (strOfNums (zb.take i))) v := fun v hv => hcv v (hV0.trans hv)
          clear hcv
          refine anyR_val Later.pre 0 rfl (by kernel_rfl) (by kernel_rfl) (by kernel_rfl) (fun _ _ _ _ h => h) rfl ?_; apply Exists.intro; refine ⟨fun v1 hv1 => ?_, ?_⟩; (· (go_simp; rfl)); simp only [Act.put, List.setIfInBounds_toArray, List.set_cons_zero, List.set_cons_succ]
          refine anyR_val Later.pre 1 rfl (by kernel_rfl) (by kernel_rfl) (by kernel_rfl) (fun _ _ _ _ h => h) rfl ?_; apply Exists.intro; refine ⟨fun v1 hv1 => ?_, ?_⟩; (· (go_simp; rfl)); simp only [Act.put, List.setIfInBounds_toArray, List.set_cons_zero, List.set_cons_succ]
          refine anyR_val Later.pre 2 rfl (by kernel_rfl) (by kernel_rfl) (by kernel_rfl) (fun _ _ _ _ h => h) rfl ?_; apply Exists.intro; refine ⟨fun v1 hv1 => ?_, ?_⟩; (· (go_simp; rfl)); simp only [Act.put, List.setIfInBounds_toArray, List.set_cons_zero, List.set_cons_succ]
          refine anyR_val Later.pre 3 rfl (by kernel_rfl) (by kernel_rfl) (by kernel_rfl) (fun _ _ _ _ h => h) rfl ?_; apply Exists.intro; refine ⟨fun v1 hv1 => ?_, ?_⟩; (· (go_simp; rfl)); simp only [Act.put, List.setIfInBounds_toArray, List.set_cons_zero, List.set_cons_succ]
          refine anyR_val Later.pre 4 rfl (by kernel_rfl) (by kernel_rfl) (by kernel_rfl) (fun _ _ _ _ h => h) rfl ?_; apply Exists.intro; refine ⟨fun v1 hv1 => ?_, ?_⟩; (· (go_simp; rfl)); simp only [Act.put, List.setIfInBounds_toArray, List.set_cons_zero, List.set_cons_succ]
          refine anyR_val Later.pre 5 rfl (by kernel_rfl) (by kernel_rfl) (by kernel_rfl) (fun _ _ _ _ h => h) rfl ?_; apply Exists.intro; refine ⟨fun v1 hv1 => ?_, ?_⟩; (· (go_simp; rfl)); simp only [Act.put, List.setIfInBounds_toArray, List.set_cons_zero, List.set_cons_succ]
          refine anyR_val Later.pre 6 rfl (by kernel_rfl) (by kernel_rfl) (by kernel_rfl) (fun _ _ _ _ h => h) rfl ⟨.int .i64 (kk : Int), fun v1 hv1 => (by go_simp; exact hkw.out), ?_⟩
          simp only [Act.put, List.setIfInBounds_toArray, List.set_cons_zero, List.set_cons_succ]
          refine anyR_val Later.pre 7 rfl (by kernel_rfl) (by kernel_rfl) (by kernel_rfl) (fun _ _ _ _ h => h) rfl ⟨sliced (some ⟨b, off, none⟩) kk zb.length cp 1, fun v1 hv1 => (by go_simp; all_goals first | rfl | (intro _; omega) | omega), ?_⟩
          simp only [Act.put, List.setIfInBounds_toArray, List.set_cons_zero, List.set_cons_succ]
          generalize sliced (some ⟨b, off, none⟩) kk zb.length cp 1 = vv at *
          obtain ⟨a9, c9, rfl, _, _⟩ := HD.out.slice
          generalize hn9 : (zb.drop kk).length = n9 at *
          clear hn9
          refine anyR_val Later.pre 8 rfl (by kernel_rfl) (by kernel_rfl) (by kernel_rfl) (fun _ _ _ _ h => h) rfl ?_; apply Exists.intro; refine ⟨fun v1 hv1 => ?_, ?_⟩; (· (go_simp; rfl)); simp only [Act.put, List.setIfInBounds_toArray, List.set_cons_zero, List.set_cons_succ]
          refine anyR_val Later.pre 9 rfl (by kernel_rfl) (by kernel_rfl) (by kernel_rfl) (fun _ _ _ _ h => h) rfl ?_; apply Exists.intro; refine ⟨fun v1 hv1 => ?_, ?_⟩; (· (go_simp; rfl)); simp only [Act.put, List.setIfInBounds_toArray, List.set_cons_zero, List.set_cons_succ]
          refine anyR_val Later.pre 10 rfl (by kernel_rfl) (by kernel_rfl) (by kernel_rfl) (fun _ _ _ _ h => h) rfl ?_; apply Exists.intro; refine ⟨fun v1 hv1 => ?_, ?_⟩; (· (go_simp; rfl)); simp only [Act.put, List.setIfInBounds_toArray, List.set_cons_zero, List.set_cons_succ]
          refine anyR_done (by kernel_rfl) (fun V9 hV9 => ?_)
          have RD := hide (HD.out.below ((hV0.trans hV9).mono hn₀))
          clear qcv HD
          go_wp2_with fail
          exact bodyPost_ret (v := .tuple #[.string (strOfNums (zb.take i)), .slice a9 n9 c9, .bool true]) (by simp [results, Tryd.results21, go_sem]) rfl ⟨hV0.trans hV9, _, rfl, .inl ⟨HCC.out.1, _, by rw [HCC.out.2.1], by rw [HCC.out.2.2, nmsB_str _ hby.out]; exact RD.out⟩⟩
        · have HSS := hide (HS.out (fun h => h1 h.2))
          have t1 : (x1 == 10) = false := by simp [h1]
          subst h0
          clear HC HS h1
          go_wp2_with fail
          go_roundw
          case rel => exact ⟨i + 1, by omega, by go_num, by first | trivial | rfl, HSS⟩
          case measure => simp [intOf]; omega
      · have HSS := hide (HS.out (fun h => h0 h.1))
        have t0 : (x0 == 13) = false := by simp [h0]
        clear HC HS h0
        go_wp2_with fail
        go_roundw
        case rel => exact ⟨i + 1, by omega, by go_num, by first | trivial | rfl, HSS⟩
        case measure => simp [intOf]; omega
    · have hnl : ¬ (i : Int) + 1 < (zb.length : Int) := by omega
      have HCN := hide (cut2_no (s := strOfNums zb) (a := 13) (b := 10) (i := i) (by omega) HN.out)
      go_wp2_with fail
      exact bodyPost_ret (v := .tuple #[.string ⟨#[]⟩, .slice none 0 0, .bool false]) (by simp [results, Tryd.results21, go_sem]) rfl ⟨Later.refl _, _, rfl, .inr ⟨HCN.out, rfl⟩⟩
end Go.Proofs.YtehdgndbloaljaaDoor

/- The document's texts: plain, name, lower, digits. -/
namespace Go.Proofs.YtehdgndbloaljaaDoor
open Go.RowKit Go.Shelf
set_option maxRecDepth 100000
set_option linter.unusedVariables false
set_option linter.unusedSimpArgs false

theorem bAt_get (s : ByteArray) (i : Nat) (h : i < s.size) : ((s[i]'h).toNat : Int) = bAt s i := by unfold bAt; simp [ByteArray.get!, getElem!_pos, h]; rfl

set_option maxHeartbeats 4000000 in
theorem rplain_any (s : ByteArray) (w : World) (hs : s.size ≤ 9223372036854775807) :
    Calls Tryd.prog 40 #[.string s] w fun e w' => e = .returned (.bool (allB lnC s)) ∧ w' = w := by
  have hs' : (s.size : Int) ≤ 9223372036854775807 := by omega
  go_enter Tryd.func40, Tryd.ntmps40
  go_upto_region 2 with fail
  go_loopw [3] (fun iv wr => ∃ pos : Nat, pos ≤ s.size ∧ iv = .int .i64 (pos : Int) ∧ wr = w ∧ Hid (∀ j, j < pos → lnC (bAt s j) = true)) (fun iv _ => s.size - (intOf iv).toNat)
  case atStart => exact ⟨0, by omega, rfl, rfl, fun j hj => by omega⟩
  case round =>
    obtain ⟨pos, hp, rfl, rfl, HA⟩ := hrel
    by_cases hlt : pos < s.size
    · have hlt1 : (pos : Int) < s.size := by omega
      have hbg := bAt_get s pos hlt
      cases hl : lnC (bAt s pos) with
      | false =>
        have HV := hide (allB_no hlt hl)
        have h13 : bAt s pos = 13 ∨ bAt s pos = 10 := by unfold lnC at hl; simp at hl; omega
        clear hl HA
        rw [← hbg] at h13
        clear hbg
        rcases h13 with h | h
        · have q : ((((s[pos]'hlt).toNat : Nat) : Int) == 13) = true := by simp [h]
          clear h
          go_wp2_with fail
          go_ret
          exact ⟨by rw [HV.out]; rfl, rfl⟩
        · have q : ((((s[pos]'hlt).toNat : Nat) : Int) == 13) = false := by simp [h]
          have q2 : ((((s[pos]'hlt).toNat : Nat) : Int) == 10) = true := by simp [h]
          clear h
          go_wp2_with fail
          go_ret
          exact ⟨by rw [HV.out]; rfl, rfl⟩
      | true =>
        have HN : Hid (∀ j, j < pos + 1 → lnC (bAt s j) = true) := fun j hj => by
          rcases Nat.lt_or_eq_of_le (Nat.lt_succ_iff.1 hj) with h | rfl
          · exact HA.out j h
          · exact hl
        have h13 : ((((s[pos]'hlt).toNat : Nat) : Int) == 13) = false ∧ ((((s[pos]'hlt).toNat : Nat) : Int) == 10) = false := by
          rw [hbg]
          unfold lnC at hl
          simpa using hl
        obtain ⟨q1, q2⟩ := h13
        clear hl HA hbg
        go_wp2_with fail
        go_roundw
        case rel => exact ⟨pos + 1, by omega, by go_num, by first | trivial | rfl, HN⟩
        case measure => simp [intOf]; omega
    · have hnl : ¬ (pos : Int) < s.size := by omega
      have HV := hide (allB_yes (s := s) (p := lnC) (fun j hj => HA.out j (by omega)))
      go_wp2_with fail
      go_ret
      exact ⟨by rw [HV.out]; rfl, rfl⟩

set_option maxHeartbeats 8000000 in
theorem rname_any (s : ByteArray) (w : World) (hs : s.size ≤ 9223372036854775807) :
    Calls Tryd.prog 42 #[.string s] w fun e w' => e = .returned (.bool (allN nmC s)) ∧ w' = w := by
  have hs' : (s.size : Int) ≤ 9223372036854775807 := by omega
  go_enter Tryd.func42, Tryd.ntmps42
  go_upto_region 2 with fail
  go_loopw [3, 4] (fun iv cv wr => ∃ pos : Nat, pos ≤ s.size ∧ iv = .int .i64 (pos : Int) ∧ wr = w ∧ Hid (∀ j, j < pos → nmC (bAt s j) = true)) (fun iv _ _ => s.size - (intOf iv).toNat)
  case atStart => exact ⟨0, by omega, rfl, rfl, fun j hj => by omega⟩
  case round =>
    obtain ⟨pos, hp, rfl, rfl, HA⟩ := hrel
    by_cases hlt : pos < s.size
    · have hlt1 : (pos : Int) < s.size := by omega
      have hbg := bAt_get s pos hlt
      have hN : Hid (nmC (bAt s pos) = true → ∀ j, j < pos + 1 → nmC (bAt s j) = true) := fun hl j hj => by
          rcases Nat.lt_or_eq_of_le (Nat.lt_succ_iff.1 hj) with h | rfl
          · exact HA.out j h
          · exact hl
      have hV : Hid (nmC (bAt s pos) = false → allN nmC s = false) := fun hl => by unfold allN; rw [allB_no hlt hl]; rfl
      have hdef : Hid (nmC (bAt s pos) = ((decide (97 ≤ bAt s pos) && decide (bAt s pos ≤ 122)) || (decide (65 ≤ bAt s pos) && decide (bAt s pos ≤ 90)) || ((decide (48 ≤ bAt s pos) && decide (bAt s pos ≤ 57)) || bAt s pos == 45))) := rfl
      rw [hdef.out] at hN hV
      clear hdef HA
      rw [← hbg] at hN hV
      clear hbg
      have hcr : (0 : Int) ≤ ((s[pos]'hlt).toNat : Int) ∧ ((s[pos]'hlt).toNat : Int) ≤ 255 := by have := (s[pos]'hlt).toNat_lt; omega
      go_upto_region 5 with fail
      generalize (((s[pos]'hlt).toNat : Nat) : Int) = c at *
      by_cases a1 : 97 ≤ c
      · by_cases a2 : c ≤ 122
        · have HN := hide (hN.out (by simp <;> omega)); clear hN hV; go_wp2_with fail; go_roundw; exact ⟨pos + 1, by omega, by go_num, trivial, HN⟩; (simp [intOf]; omega)
        · have a3 : 65 ≤ c := by omega
          have a4 : ¬ c ≤ 90 := by omega
          have a5 : 48 ≤ c := by omega
          have a6 : ¬ c ≤ 57 := by omega
          have a7 : (c == 45) = false := by simp; omega
          have HN := hide (hV.out (by simp <;> omega)); clear hN hV; go_wp2_with fail; go_ret; exact ⟨by rw [HN.out]; rfl, rfl⟩
      · by_cases a3 : 65 ≤ c
        · by_cases a4 : c ≤ 90
          · have HN := hide (hN.out (by simp <;> omega)); clear hN hV; go_wp2_with fail; go_roundw; exact ⟨pos + 1, by omega, by go_num, trivial, HN⟩; (simp [intOf]; omega)
          · have a5 : 48 ≤ c := by omega
            have a6 : ¬ c ≤ 57 := by omega
            have a7 : (c == 45) = false := by simp; omega
            have HN := hide (hV.out (by simp <;> omega)); clear hN hV; go_wp2_with fail; go_ret; exact ⟨by rw [HN.out]; rfl, rfl⟩
        · by_cases a5 : 48 ≤ c
          · by_cases a6 : c ≤ 57
            · have HN := hide (hN.out (by simp <;> omega)); clear hN hV; go_wp2_with fail; go_roundw; exact ⟨pos + 1, by omega, by go_num, trivial, HN⟩; (simp [intOf]; omega)
            · have a7 : (c == 45) = false := by simp; omega
              have HN := hide (hV.out (by simp <;> omega)); clear hN hV; go_wp2_with fail; go_ret; exact ⟨by rw [HN.out]; rfl, rfl⟩
          · by_cases a7 : c = 45
            · subst a7
              have HN := hide (hN.out (by simp <;> omega)); clear hN hV; go_wp2_with fail; go_roundw; exact ⟨pos + 1, by omega, by go_num, trivial, HN⟩; (simp [intOf]; omega)
            · have a8 : (c == 45) = false := by simp [a7]
              have HN := hide (hV.out (by simp <;> omega)); clear hN hV; go_wp2_with fail; go_ret; exact ⟨by rw [HN.out]; rfl, rfl⟩
    · have hnl : ¬ (pos : Int) < s.size := by omega
      have HB : Hid (allB nmC s = true) := allB_yes (fun j hj => HA.out j (by omega))
      clear HA
      by_cases hs0 : s.size = 0
      · have HV : Hid (allN nmC s = false) := by show _ = _; unfold allN; rw [hs0]; simp
        obtain rfl := str_empty s hs0
        go_wp2_with fail
        go_ret
        exact ⟨by rw [HV.out]; rfl, rfl⟩
      · have HV : Hid (allN nmC s = true) := by show _ = _; unfold allN; rw [HB.out]; simp [hs0]
        have hne := str_ne hs0
        go_wp2_with fail
        go_ret
        exact ⟨by rw [HV.out]; rfl, rfl⟩
end Go.Proofs.YtehdgndbloaljaaDoor

/- The document's texts: lower, digits. -/
namespace Go.Proofs.YtehdgndbloaljaaDoor
open Go.RowKit Go.Shelf
set_option maxRecDepth 100000
set_option linter.unusedVariables false
set_option linter.unusedSimpArgs false

/-- A text's bytes with small letters. -/
def lowZ (s : ByteArray) : List Int := (nmsB s).map sml
theorem sml_rng {c : Int} (h : 0 ≤ c ∧ c ≤ 255) : 0 ≤ sml c ∧ sml c ≤ 255 := by unfold sml; split <;> omega
theorem lowZ_by (s : ByteArray) : Mt.By (lowZ s) := fun z hz => by
  simp only [lowZ, List.mem_map] at hz
  obtain ⟨c, hc, rfl⟩ := hz
  exact sml_rng (nmsB_by s c hc)
theorem lowZ_len (s : ByteArray) : (lowZ s).length = s.size := by unfold lowZ; rw [List.length_map, nmsB_len]
theorem swP_iff (s t : ByteArray) (h : s.size = t.size) : ∀ k pos, pos + k = s.size → (swP s t k pos = true ↔ ∀ j, pos ≤ j → j < s.size → sml (bAt s j) = sml (bAt t j))
  | 0, pos, hk => by
    constructor
    · intro _ j h1 h2; omega
    · intro _; rfl
  | k + 1, pos, hk => by
    have e : swP s t (k + 1) pos = if sml (bAt s pos) = sml (bAt t pos) then swP s t k (pos + 1) else false := rfl
    rw [e]
    split
    · rename_i hq
      rw [swP_iff s t h k (pos + 1) (by omega)]
      constructor
      · intro hh j h1 h2
        rcases Nat.eq_or_lt_of_le h1 with rfl | h1
        · exact hq
        · exact hh j h1 h2
      · intro hh j h1 h2; exact hh j (by omega) h2
    · rename_i hq
      constructor
      · intro hh; cases hh
      · intro hh; exact absurd (hh pos (Nat.le_refl _) (by omega)) hq
theorem lowZ_at (s : ByteArray) (j : Nat) (h : j < s.size) : (lowZ s)[j]? = some (sml (bAt s j)) := by
  unfold lowZ
  have h' : j < (nmsB s).length := by rw [nmsB_len]; exact h
  rw [List.getElem?_map, nmsB_at s j h, List.getElem?_eq_getElem h']
  rfl
theorem swV_low (s t : ByteArray) : swV s t = decide (lowZ s = lowZ t) := by
  rw [Bool.eq_iff_iff, decide_eq_true_eq]
  unfold swV
  rw [Bool.and_eq_true, decide_eq_true_eq]
  constructor
  · rintro ⟨h1, h2⟩
    rw [swP_iff s t h1 s.size 0 (by omega)] at h2
    apply List.ext_getElem?
    intro j
    by_cases hj : j < s.size
    · rw [lowZ_at s j hj, lowZ_at t j (by omega), h2 j (by omega) hj]
    · rw [List.getElem?_eq_none (by rw [lowZ_len]; omega), List.getElem?_eq_none (by rw [lowZ_len]; omega)]
  · intro h
    have h1 : s.size = t.size := by rw [← lowZ_len, ← lowZ_len, h]
    refine ⟨h1, (swP_iff s t h1 s.size 0 (by omega)).2 fun j _ hj => ?_⟩
    have := lowZ_at s j hj
    rw [h, lowZ_at t j (by omega)] at this
    exact (Option.some.inj this).symm
/-- Two words are the same, large or small, where their small forms are. -/
theorem low_eq (s t : ByteArray) : eqS (strOfNums (lowZ s)) (strOfNums (lowZ t)) = swV s t := by
  rw [swV_low, Bool.eq_iff_iff, eqS_iff, decide_eq_true_eq]
  constructor
  · intro h
    have := congrArg nmsB h
    rwa [nmsB_str _ (lowZ_by s), nmsB_str _ (lowZ_by t)] at this
  · intro h; rw [h]
theorem low_cl (s : ByteArray) : (ByteArray.toList (strOfNums (lowZ s)) == ByteArray.toList ⟨#[99, 111, 110, 116, 101, 110, 116, 45, 108, 101, 110, 103, 116, 104]⟩) = swV s clN := by
  rw [str_beq, ← low_eq]
  congr 1

set_option maxRecDepth 100000 in
set_option maxHeartbeats 8000000 in
theorem rlower_any (s : ByteArray) (w : World) (hs : s.size ≤ 140737488355328) :
    Calls Tryd.prog 43 #[.string s] w fun e w' => e = .returned (.string (strOfNums (lowZ s))) ∧ Later w w' := by
  obtain ⟨i0, hi0, hz0, hz1, hz2⟩ := info_partsS info_u8
  have hs' : (s.size : Int) ≤ 140737488355328 := by omega
  go_enter Tryd.func43, Tryd.ntmps43
  go_upto_region 3 with fail
  go_loopw [3, 4, 5] (fun bv iv cv wr => ∃ pos : Nat, pos ≤ s.size ∧ iv = .int .i64 (pos : Int) ∧ Below w.heap.size w wr ∧ Hid (wr.ownsRow w.heap.size 5 1 bv ((lowZ s).take pos).length (((lowZ s).take pos).map (Value.int .u8)))) (fun _ iv _ _ => s.size - (intOf iv).toNat)
  case atStart => exact ⟨0, by omega, rfl, Below.refl _ _, ⟨rfl, .inl ⟨rfl, rfl⟩⟩⟩
  case round =>
    obtain ⟨pos, hp, rfl, lr, HO⟩ := hrel
    by_cases hlt : pos < s.size
    · have hlt1 : (pos : Int) < s.size := by omega
      have hbg := bAt_get s pos hlt
      have HS : Hid ((lowZ s).take (pos + 1) = (lowZ s).take pos ++ [sml (bAt s pos)]) := by
        show _ = _
        have h' : pos < (lowZ s).length := by rw [lowZ_len]; exact hlt
        rw [List.take_succ_eq_append_getElem h']
        have := lowZ_at s pos hlt
        rw [List.getElem?_eq_getElem h'] at this
        rw [Option.some.inj this]
      have HML : Hid (((lowZ s).take pos).length = pos) := by show _ = _; rw [List.length_take, lowZ_len]; omega
      generalize (lowZ s).take pos = M at *
      rw [← hbg] at HS
      clear hbg
      have hcr : (0 : Int) ≤ ((s[pos]'hlt).toNat : Int) ∧ ((s[pos]'hlt).toNat : Int) ≤ 255 := by have := (s[pos]'hlt).toNat_lt; omega
      have hM1 : M.length ≤ 140737488355327 := by rw [HML.out]; omega
      go_upto_region 6 with fail
      generalize (((s[pos]'hlt).toNat : Nat) : Int) = c at *
      by_cases a1 : 65 ≤ c
      · by_cases a2 : c ≤ 90
        · have hsm : sml c = c + 32 := by unfold sml; rw [if_pos ⟨a1, a2⟩]
          rw [hsm] at HS
          clear hsm
          go_upto_region 8 with fail
          have hcr2 : 0 ≤ c + 32 ∧ c + 32 ≤ 255 := by omega
          generalize c + 32 = d at *
          clear a1 a2 hcr
          have la := later_allocR wr (.cells #[.int .u8 d] 5); have HO1 := hide (ownsS_later HO.out la); have hb1 : w.heap.size ≤ (wr.alloc (.cells #[.int .u8 d] 5)).heap.size := (lr.trans (la.mono lr.size)).size; have HRD : Hid (Rd (wr.alloc (.cells #[.int .u8 d] 5)).heap.size (wr.alloc (.cells #[.int .u8 d] 5)) (.slice (some ⟨wr.heap.size, 0, none⟩) 1 1) [d]) := rd_mark [d] 5 (0, 0) wr (by simp) (by simp); obtain ⟨v2, w2, hrun, hown2, hgb⟩ := run_app (wr.alloc (.cells #[.int .u8 d] 5)) 22 22 5 w.heap.size i0 Tryd.underlying22 hi0 hz0 hz1 hz2 _ M HO1.out (wr.alloc (.cells #[.int .u8 d] 5)).heap.size (.slice (some ⟨wr.heap.size, 0, none⟩) 1 1) [d] HRD.out (by simp; omega) hb1; obtain ⟨va2, vc2, rfl⟩ := owns_form hown2; obtain ⟨va1, vc1, rfl⟩ := owns_form HO1.out; have l2 : Below w.heap.size w w2 := grown_later hgb (lr.trans (la.mono lr.size)) hb1 (fun k hk => (HO1.out.lt k hk).1); have HRUN := hide hrun; have HO2 := hide hown2; clear hrun hown2 hgb; generalize hm2 : (M ++ [d]).length = m2 at HRUN HO2; have HM2 := hide hm2; clear hm2; go_wp2_with (at_builtin; refine wpList_appw rfl (.tmp 23) (.tmp 25) 22 rfl _ _ rfl rfl _ w2 HRUN.out ?_); go_roundw; exact ⟨pos + 1, by omega, by go_num, l2, by rw [HS.out, HM2.out]; exact HO2⟩; (simp [intOf]; omega)
        · have hsm : sml c = c := by unfold sml; rw [if_neg (by omega)]
          rw [hsm] at HS
          clear hsm
          go_upto_region 8 with fail
          clear a1 a2
          generalize c = d at *
          have la := later_allocR wr (.cells #[.int .u8 d] 5); have HO1 := hide (ownsS_later HO.out la); have hb1 : w.heap.size ≤ (wr.alloc (.cells #[.int .u8 d] 5)).heap.size := (lr.trans (la.mono lr.size)).size; have HRD : Hid (Rd (wr.alloc (.cells #[.int .u8 d] 5)).heap.size (wr.alloc (.cells #[.int .u8 d] 5)) (.slice (some ⟨wr.heap.size, 0, none⟩) 1 1) [d]) := rd_mark [d] 5 (0, 0) wr (by simp) (by simp); obtain ⟨v2, w2, hrun, hown2, hgb⟩ := run_app (wr.alloc (.cells #[.int .u8 d] 5)) 22 22 5 w.heap.size i0 Tryd.underlying22 hi0 hz0 hz1 hz2 _ M HO1.out (wr.alloc (.cells #[.int .u8 d] 5)).heap.size (.slice (some ⟨wr.heap.size, 0, none⟩) 1 1) [d] HRD.out (by simp; omega) hb1; obtain ⟨va2, vc2, rfl⟩ := owns_form hown2; obtain ⟨va1, vc1, rfl⟩ := owns_form HO1.out; have l2 : Below w.heap.size w w2 := grown_later hgb (lr.trans (la.mono lr.size)) hb1 (fun k hk => (HO1.out.lt k hk).1); have HRUN := hide hrun; have HO2 := hide hown2; clear hrun hown2 hgb; generalize hm2 : (M ++ [d]).length = m2 at HRUN HO2; have HM2 := hide hm2; clear hm2; go_wp2_with (at_builtin; refine wpList_appw rfl (.tmp 23) (.tmp 25) 22 rfl _ _ rfl rfl _ w2 HRUN.out ?_); go_roundw; exact ⟨pos + 1, by omega, by go_num, l2, by rw [HS.out, HM2.out]; exact HO2⟩; (simp [intOf]; omega)
      · have hsm : sml c = c := by unfold sml; rw [if_neg (by omega)]
        rw [hsm] at HS
        clear hsm
        go_upto_region 8 with fail
        clear a1
        generalize c = d at *
        have la := later_allocR wr (.cells #[.int .u8 d] 5); have HO1 := hide (ownsS_later HO.out la); have hb1 : w.heap.size ≤ (wr.alloc (.cells #[.int .u8 d] 5)).heap.size := (lr.trans (la.mono lr.size)).size; have HRD : Hid (Rd (wr.alloc (.cells #[.int .u8 d] 5)).heap.size (wr.alloc (.cells #[.int .u8 d] 5)) (.slice (some ⟨wr.heap.size, 0, none⟩) 1 1) [d]) := rd_mark [d] 5 (0, 0) wr (by simp) (by simp); obtain ⟨v2, w2, hrun, hown2, hgb⟩ := run_app (wr.alloc (.cells #[.int .u8 d] 5)) 22 22 5 w.heap.size i0 Tryd.underlying22 hi0 hz0 hz1 hz2 _ M HO1.out (wr.alloc (.cells #[.int .u8 d] 5)).heap.size (.slice (some ⟨wr.heap.size, 0, none⟩) 1 1) [d] HRD.out (by simp; omega) hb1; obtain ⟨va2, vc2, rfl⟩ := owns_form hown2; obtain ⟨va1, vc1, rfl⟩ := owns_form HO1.out; have l2 : Below w.heap.size w w2 := grown_later hgb (lr.trans (la.mono lr.size)) hb1 (fun k hk => (HO1.out.lt k hk).1); have HRUN := hide hrun; have HO2 := hide hown2; clear hrun hown2 hgb; generalize hm2 : (M ++ [d]).length = m2 at HRUN HO2; have HM2 := hide hm2; clear hm2; go_wp2_with (at_builtin; refine wpList_appw rfl (.tmp 23) (.tmp 25) 22 rfl _ _ rfl rfl _ w2 HRUN.out ?_); go_roundw; exact ⟨pos + 1, by omega, by go_num, l2, by rw [HS.out, HM2.out]; exact HO2⟩; (simp [intOf]; omega)
    · obtain rfl : pos = s.size := by omega
      have hnl : ¬ ((s.size : Nat) : Int) < s.size := by omega
      rw [show (lowZ s).take s.size = lowZ s from List.take_of_length_le (by rw [lowZ_len]; exact Nat.le_refl _)] at HO
      have hcv := conv_rd 22 9 5 Tryd.underlying22 Tryd.underlying5 Tryd.underlying9 (Ow.of_row HO.out).rd
      obtain ⟨va, vc, rfl⟩ := owns_form HO.out
      have HW : Hid (Later w wr) := lr
      clear HO lr
      generalize (lowZ s).length = nl at *
      generalize hrs : strOfNums (lowZ s) = rs at *
      have HRS := hide hrs
      clear hrs
      go_wp2_with fail
      go_ret
      exact ⟨by rw [HRS.out]; rfl, HW.out⟩

theorem decB_small {n : Nat} (h : n < 10) : decB n = strOfNums [48 + (n : Int)] := by
  have := dg_small h
  rw [← str_nmsB (decB n), show nmsB (decB n) = dg n from rfl, this]
theorem decB_big {n : Nat} (h : 10 ≤ n) : decB n = decB (n / 10) ++ strOfNums [48 + ((n % 10 : Nat) : Int)] := by
  have := dg_big h
  apply ba_ext
  have h1 : ∀ s t : ByteArray, nmsB s = nmsB t → s = t := fun s t h => by rw [← str_nmsB s, ← str_nmsB t, h]
  rw [h1 (decB n) (decB (n / 10) ++ strOfNums [48 + ((n % 10 : Nat) : Int)]) (by
    rw [nmsB_app, nmsB_str _ (fun z hz => by simp at hz; subst hz; omega)]
    exact this)]
theorem rd_one (W : World) (d : Int) : Rd (W.alloc (.cells #[.int .u8 d] 5)).heap.size (W.alloc (.cells #[.int .u8 d] 5)) (.slice (some ⟨W.heap.size, 0, none⟩) 1 1) [d] := rd_mark [d] 5 (0, 0) W (by simp) (by simp)
theorem wrI {x : Int} (h1 : -9223372036854775808 ≤ x) (h2 : x ≤ 9223372036854775807) : IntKind.i64.wrap x = x := by
  unfold IntKind.wrap
  simp [IntKind.signed, IntKind.bits]
  omega
theorem wrB {x : Int} (h1 : 0 ≤ x) (h2 : x ≤ 255) : IntKind.u8.wrap x = x := by
  unfold IntKind.wrap
  simp [IntKind.signed, IntKind.bits]
  omega
/-- A number as the document writes it. -/
def DigsAt (n : Nat) : Prop := ∀ w : World, Calls Tryd.prog 44 #[.int .i64 (n : Int)] w fun e w' => e = .returned (.string (decB n)) ∧ Later w w'

set_option maxRecDepth 100000 in
set_option maxHeartbeats 8000000 in
theorem rdigits_step (n : Nat) (hn : n ≤ 9223372036854775807) (hi : 10 ≤ n → DigsAt (n / 10)) : DigsAt n := by
  intro w
  have hn' : (n : Int) ≤ 9223372036854775807 := by omega
  by_cases h10 : n < 10
  · have h1 : (n : Int) < 10 := by omega
    have HV := hide (decB_small h10)
    go_enter Tryd.func44, Tryd.ntmps44
    have hcv := conv_rd 22 9 5 Tryd.underlying22 Tryd.underlying5 Tryd.underlying9 (rd_one w (48 + (n : Int)))
    generalize hrs : strOfNums [48 + (n : Int)] = rs at *
    go_wp2_with fail
    go_ret
    exact ⟨by rw [HV.out]; rfl, later_allocR _ _⟩
  · have h1 : ¬ (n : Int) < 10 := by omega
    have HV := hide (decB_big (n := n) (by omega))
    have HI := hide (hi (by omega))
    have hds : (decB (n / 10)).size ≤ 20 := decB_len _ (by omega)
    go_enter Tryd.func44, Tryd.ntmps44
    go_upto_region 3 with fail
    refine anyR_begin (R := Later) Later.pre Later.drew 11 rfl (by kernel_rfl) (fun V0 hV0 => ?_)
    refine anyR_val Later.pre 0 rfl (by kernel_rfl) (by kernel_rfl) (by kernel_rfl) (fun _ _ _ _ h => h) rfl ?_; apply Exists.intro; refine ⟨fun v1 hv1 => ?_, ?_⟩; (· (go_simp; rfl)); simp only [Act.put, List.setIfInBounds_toArray, List.set_cons_zero, List.set_cons_succ]
    refine anyR_val Later.pre 3 rfl (by kernel_rfl) (by kernel_rfl) (by kernel_rfl) (fun _ _ _ _ h => h) rfl ?_; apply Exists.intro; refine ⟨fun v1 hv1 => ?_, ?_⟩; (· (go_simp; rfl)); simp only [Act.put, List.setIfInBounds_toArray, List.set_cons_zero, List.set_cons_succ]
    refine anyR_val Later.pre 1 rfl (by kernel_rfl) (by kernel_rfl) (by kernel_rfl) (fun _ _ _ _ h => h) rfl ?_; apply Exists.intro; refine ⟨fun v1 hv1 => ?_, ?_⟩; (· (go_simp; rfl)); simp only [Act.put, List.setIfInBounds_toArray, List.set_cons_zero, List.set_cons_succ]
    refine anyR_val Later.pre 4 rfl (by kernel_rfl) (by kernel_rfl) (by kernel_rfl) (fun _ _ _ _ h => h) rfl ?_; apply Exists.intro; refine ⟨fun v1 hv1 => ?_, ?_⟩; (· (go_simp; rfl)); simp only [Act.put, List.setIfInBounds_toArray, List.set_cons_zero, List.set_cons_succ]
    have e1 : IntKind.i64.wrap ((n : Int) / 10) = ((n / 10 : Nat) : Int) := by
      have h : (n : Int) / 10 = ((n / 10 : Nat) : Int) := by omega
      rw [h]
      exact wrI (by omega) (by omega)
    have e2 : (n : Int).tmod 10 = ((n % 10 : Nat) : Int) := by rw [Int.tmod_eq_emod_of_nonneg (by omega)]; omega
    simp only [e1, e2]
    clear e1 e2
    have hm9 : n % 10 ≤ 9 := by omega
    generalize n % 10 = r at *
    generalize n / 10 = q at *
    have hm9' : (r : Int) ≤ 9 := by omega
    refine anyR_take Later.pre 2 (.string (decB q)) rfl (by kernel_rfl) (by kernel_rfl) (by kernel_rfl) (fun _ _ _ h => h) rfl (fun u hu => goes_call 44 #[.int .i64 (q : Int)] (by go_simp) (HI.out u)) ?_
    simp only [Act.put, List.setIfInBounds_toArray, List.set_cons_zero, List.set_cons_succ]
    refine anyR_val Later.pre 5 rfl (by kernel_rfl) (by kernel_rfl) (by kernel_rfl) (fun _ _ _ _ h => h) rfl ?_; apply Exists.intro; refine ⟨fun v1 hv1 => ?_, ?_⟩; (· (go_simp; rfl)); simp only [Act.put, List.setIfInBounds_toArray, List.set_cons_zero, List.set_cons_succ]
    refine anyR_val Later.pre 6 rfl (by kernel_rfl) (by kernel_rfl) (by kernel_rfl) (fun _ _ _ _ h => h) rfl ?_; apply Exists.intro; refine ⟨fun v1 hv1 => ?_, ?_⟩; (· (go_simp; rfl)); simp only [Act.put, List.setIfInBounds_toArray, List.set_cons_zero, List.set_cons_succ]
    simp only [wrI (x := 48 + (r : Int)) (by omega) (by omega), wrB (x := 48 + (r : Int)) (by omega) (by omega)]
    refine anyR_one 7 rfl (by kernel_rfl) rfl (fun V1 hV1 => ?_)
    unfold Oper.wp
    go_simp
    have l2 := later_allocR V1 (.cells #[.int .u8 (48 + (r : Int))] 5)
    have HR := hide (rd_one V1 (48 + (r : Int)))
    refine ⟨l2, ?_⟩
    change wpAnyR _ _ _ _ _ _ _ _ (V1.alloc (.cells #[.int .u8 (48 + (r : Int))] 5))
    generalize V1.alloc (.cells #[.int .u8 (48 + (r : Int))] 5) = V2 at *
    have qc : ∀ u, Later V2 u → (convert 22 9 (.slice (some ⟨V1.heap.size, 0, none⟩) 1 1)).run Tryd.prog u = .ok (.string (strOfNums [48 + (r : Int)])) u := fun u hu => conv_rd 22 9 5 Tryd.underlying22 Tryd.underlying5 Tryd.underlying9 (HR.out.later hu)
    have hss : (strOfNums [48 + (r : Int)]).size = 1 := strOfNums_size _
    have hss2 : (strOfNums [48 + (r : Int)]).size ≤ 1 := by omega
    clear hss
    generalize strOfNums [48 + (r : Int)] = rs at *
    generalize V1.heap.size = g1 at *
    generalize decB q = dq at *
    refine anyR_val Later.pre 8 rfl (by kernel_rfl) (by kernel_rfl) (by kernel_rfl) (fun _ _ _ _ h => h) rfl ?_; apply Exists.intro; refine ⟨fun v1 hv1 => ?_, ?_⟩; (· (go_simp; rfl)); simp only [Act.put, List.setIfInBounds_toArray, List.set_cons_zero, List.set_cons_succ]
    clear qc
    refine anyR_val Later.pre 9 rfl (by kernel_rfl) (by kernel_rfl) (by kernel_rfl) (fun _ _ _ _ h => h) rfl ⟨.string (dq ++ rs), fun v1 hv1 => (by go_simp; omega), ?_⟩; simp only [Act.put, List.setIfInBounds_toArray, List.set_cons_zero, List.set_cons_succ]
    refine anyR_val Later.pre 10 rfl (by kernel_rfl) (by kernel_rfl) (by kernel_rfl) (fun _ _ _ _ h => h) rfl ?_; apply Exists.intro; refine ⟨fun v1 hv1 => ?_, ?_⟩; (· (go_simp; rfl)); simp only [Act.put, List.setIfInBounds_toArray, List.set_cons_zero, List.set_cons_succ]
    refine anyR_done (by kernel_rfl) (fun V9 hV9 => ?_)
    have L9 : Later w V9 := hV0.trans (hV1.trans (l2.trans hV9))
    go_wp2_with fail
    go_ret
    exact ⟨by rw [HV.out]; rfl, L9⟩
theorem rdigits_any (n : Nat) (hn : n ≤ 9223372036854775807) : DigsAt n := by
  induction n using Nat.strongRecOn with
  | ind n ih => exact rdigits_step n hn (fun h => ih (n / 10) (by omega) (by omega))
end Go.Proofs.YtehdgndbloaljaaDoor
